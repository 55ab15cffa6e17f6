/-
  Contracts of the specification of package sign: digits.
-/
import Derived.Test.YtdbdlhgkhnenfaaDoorGsf
import Derived.Deep.QuietTactic
import Derived.BigQuiet
namespace Go.Proofs.YtdbdlhgkhnenfaaDoor
open Go.RowKit

set_option maxRecDepth 1000000 in
set_option maxHeartbeats 1000000 in
theorem rdigits_any (l : List UInt8) (w : World) (hl : l.length = 16) :
    Calls Tryd.prog 11 #[.agg (l.map bv).toArray] w fun e w' => e = .returned (.agg ((Sg.digits l).map nv).toArray) ∧ Below w.heap.size w w' := by
  have HL := Lib.hid hl
  obtain ⟨q1, q2, q3, q4, q5⟩ := rows3 w (l.map bv).toArray z35 z35 23 25 25
  obtain ⟨u, hu⟩ : ∃ x, x = ((w.alloc (.cells (l.map bv).toArray 23)).alloc (.cells z35 25)).alloc (.cells z35 25) := ⟨_, rfl⟩
  rw [← hu] at q1 q2 q3 q4
  have R1 : Hid (Row w.heap.size (l.map bv) u) := Lib.hid q1
  have R2 : Hid (Row (w.heap.size + 1) (fillZ 35 []) u) := Lib.hid q2
  have R3 : Hid (Row (w.heap.size + 1 + 1) (fillZ 35 []) u) := Lib.hid q3
  have B3 := Lib.hid q4
  have HU := Lib.hid hu
  clear q1 q2 q3 q4 q5 hu hl
  go_enter Tryd.func11, Tryd.ntmps11
  go_upto_region 2 with fail
  rw [← HU.out]
  clear HU
  go_wp2_with fail
  go_loopw [4, 5] (fun r i wr => ∃ k : Nat, i = .int .i64 (k : Int) ∧ k ≤ 16 ∧ r = nv (Sg.rest (l.take k)) ∧ Row (w.heap.size + 1 + 1) (fillZ 35 (Sg.nibs (l.take k))) wr ∧ Row (w.heap.size + 1) (fillZ 35 []) wr ∧ Row w.heap.size (l.map bv) wr ∧ Below w.heap.size w wr) (fun _ i _ => 16 - (intOf i).toNat)
  case atStart => exact ⟨0, rfl, by omega, rfl, R3.out, R2.out, R1.out, B3.out⟩
  case round =>
    obtain ⟨k, rfl, hk, rfl, h1, h2, h4, h3⟩ := hrel
    have hnl : (Sg.nibs (l.take k)).length = 2 * k := by rw [Sg.nibs_len, List.length_take, HL.out]; omega
    have hrb := Sg.rest_le (l.take k)
    rw [List.length_take, HL.out] at hrb
    by_cases hlt : k < 16
    · have ht : (l.take k ++ [l.getD k 0]) = l.take (k + 1) := by
        rw [List.take_succ_eq_append_getElem (by rw [HL.out]; exact hlt), List.getD_eq_getElem?_getD, List.getElem?_eq_getElem (by rw [HL.out]; exact hlt)]; rfl
      have hn := nibs_snoc (l.take k) (l.getD k 0)
      have hr := rest_snoc (l.take k) (l.getD k 0)
      rw [ht] at hn hr
      have c0 := (h4 k (bv (l.getD k 0)) (by rw [List.getElem?_map, List.getD_eq_getElem?_getD, List.getElem?_eq_getElem (by rw [HL.out]; exact hlt)]; rfl)).1
      unfold bv at c0
      generalize l.getD k 0 = b at hn hr c0
      have hbb := b.toNat_lt
      generalize Sg.nibs (l.take k) = N at hn h1 hnl
      generalize Sg.rest (l.take k) = r at hr hrb ⊢
      have x1 : nv (b.toNat / 16) = .int .i64 ((b.toNat : Int) / 16) := by unfold nv; congr 1
      have x2 : nv (b.toNat % 16) = .int .i64 ((b.toNat : Int) % 16) := by unfold nv; congr 1
      have r1 := h1.set (2 * k) (nv (b.toNat / 16)) (by rw [fillZ_len _ _ (by omega)]; omega)
      rw [fillZ_set _ _ _ _ hnl (by omega)] at r1
      have r2 := r1.set (2 * k + 1) (nv (b.toNat % 16)) (by rw [fillZ_len _ _ (by rw [List.length_append, List.length_singleton]; omega)]; omega)
      rw [fillZ_set _ _ _ _ (by rw [List.length_append, List.length_singleton]; omega) (by omega), ← hn, x1, x2] at r2
      obtain ⟨u0, e0⟩ := Option.isSome_iff_exists.1 (h1.there (2 * k) 1 (by rw [fillZ_len _ _ (by omega)]; omega) 0 (by omega)).1
      have f0 := (h1.there (2 * k) 1 (by rw [fillZ_len _ _ (by omega)]; omega) 0 (by omega)).2
      obtain ⟨u1, e1⟩ := Option.isSome_iff_exists.1 (h1.there (2 * k + 1) 1 (by rw [fillZ_len _ _ (by omega)]; omega) 0 (by omega)).1
      have f1 := (h1.there (2 * k + 1) 1 (by rw [fillZ_len _ _ (by omega)]; omega) 0 (by omega)).2
      change wr.cell? ⟨w.heap.size + 1 + 1, 2 * k, none⟩ = some u0 at e0
      change wr.frozen? ⟨w.heap.size + 1 + 1, 2 * k, none⟩ = false at f0
      change wr.cell? ⟨w.heap.size + 1 + 1, 2 * k + 1, none⟩ = some u1 at e1
      change wr.frozen? ⟨w.heap.size + 1 + 1, 2 * k + 1, none⟩ = false at f1
      have s2 := (h2.far (b := w.heap.size + 1 + 1) (by omega) (2 * k) [nv (b.toNat / 16)]).far (b := w.heap.size + 1 + 1) (by omega) (2 * k + 1) [nv (b.toNat % 16)]
      have s4 := (h4.far (b := w.heap.size + 1 + 1) (by omega) (2 * k) [nv (b.toNat / 16)]).far (b := w.heap.size + 1 + 1) (by omega) (2 * k + 1) [nv (b.toNat % 16)]
      have s3 := below_setCells (b := w.heap.size + 1 + 1) (by omega) [nv (b.toNat % 16)] (2 * k + 1) w _ (below_setCells (b := w.heap.size + 1 + 1) (by omega) [nv (b.toNat / 16)] (2 * k) w wr h3)
      rw [x1, x2] at s2 s3 s4
      have hre : nv (r + (30 - (b.toNat / 16 + b.toNat % 16))) = .int .i64 ((r : Int) + 30 - (b.toNat : Int) / 16 - (b.toNat : Int) % 16) := by unfold nv; congr 1; omega
      rw [← hr] at hre
      have HRE := Lib.hid hre
      unfold nv
      have P1 := Lib.hid r2
      have P2 := Lib.hid s2
      have P3 := Lib.hid s3
      have P4 := Lib.hid s4
      clear ht hn hr h1 h2 h3 h4 hnl R1 R2 R3 B3 r1 r2 s2 s3 s4 hre x1 x2
      go_wp2_with fail
      go_quiet (fail)
      go_wp2_with fail
      first
        | exact ⟨⟨k + 1, by go_num, by omega, HRE.out.symm, P1.out, P2.out, P4.out, below_drewN P3.out nq⟩, by simp [intOf]; omega⟩
        | (go_roundw
           case rel => exact ⟨k + 1, by go_num, by omega, HRE.out.symm, P1.out, P2.out, P4.out, below_drewN P3.out nq⟩
           case measure => simp [intOf]; omega)
    · have hk16 : k = 16 := by omega
      subst hk16
      rw [List.take_of_length_le (by rw [HL.out]; exact Nat.le_refl _)] at h1 hnl hrb ⊢
      have hd0 : Sg.digits l = Sg.nibs l ++ [Sg.rest l / 256] ++ [Sg.rest l / 16 % 16] ++ [Sg.rest l % 16] := by unfold Sg.digits; simp
      have hdl := Sg.digits_len HL.out
      have hr480 : Sg.rest l ≤ 480 := by omega
      generalize Sg.nibs l = N at h1 hnl hd0
      generalize Sg.rest l = s at hrb hd0 hr480 ⊢
      have x1 : nv (s / 256) = .int .i64 ((s : Int) / 256) := by unfold nv; congr 1
      have x2 : nv (s / 16 % 16) = .int .i64 ((s : Int) / 16 % 16) := by unfold nv; congr 1
      have x3 : nv (s % 16) = .int .i64 ((s : Int) % 16) := by unfold nv; congr 1
      have l1 : (N ++ [s / 256]).length = 33 := by rw [List.length_append, hnl]; rfl
      have l2 : (N ++ [s / 256] ++ [s / 16 % 16]).length = 34 := by rw [List.length_append, l1]; rfl
      have l3 : (N ++ [s / 256] ++ [s / 16 % 16] ++ [s % 16]).length = 35 := by rw [List.length_append, l2]; rfl
      have r1 := h1.set 32 (nv (s / 256)) (by rw [fillZ_len _ _ (by omega)]; omega)
      rw [fillZ_set _ _ _ _ hnl (by omega)] at r1
      have r2 := r1.set 33 (nv (s / 16 % 16)) (by rw [fillZ_len _ _ (by omega)]; omega)
      rw [fillZ_set _ _ _ _ l1 (by omega)] at r2
      have r3 := r2.set 34 (nv (s % 16)) (by rw [fillZ_len _ _ (by omega)]; omega)
      rw [fillZ_set _ _ _ _ l2 (by omega), fillZ_full _ _ l3, ← hd0, x1, x2, x3] at r3
      obtain ⟨u0, e0⟩ := Option.isSome_iff_exists.1 (h1.there 32 1 (by rw [fillZ_len _ _ (by omega)]; omega) 0 (by omega)).1
      have f0 := (h1.there 32 1 (by rw [fillZ_len _ _ (by omega)]; omega) 0 (by omega)).2
      obtain ⟨u1, e1⟩ := Option.isSome_iff_exists.1 (h1.there 33 1 (by rw [fillZ_len _ _ (by omega)]; omega) 0 (by omega)).1
      have f1 := (h1.there 33 1 (by rw [fillZ_len _ _ (by omega)]; omega) 0 (by omega)).2
      obtain ⟨u2, e2⟩ := Option.isSome_iff_exists.1 (h1.there 34 1 (by rw [fillZ_len _ _ (by omega)]; omega) 0 (by omega)).1
      have f2 := (h1.there 34 1 (by rw [fillZ_len _ _ (by omega)]; omega) 0 (by omega)).2
      change wr.cell? ⟨w.heap.size + 1 + 1, 32, none⟩ = some u0 at e0
      change wr.frozen? ⟨w.heap.size + 1 + 1, 32, none⟩ = false at f0
      change wr.cell? ⟨w.heap.size + 1 + 1, 33, none⟩ = some u1 at e1
      change wr.frozen? ⟨w.heap.size + 1 + 1, 33, none⟩ = false at f1
      change wr.cell? ⟨w.heap.size + 1 + 1, 34, none⟩ = some u2 at e2
      change wr.frozen? ⟨w.heap.size + 1 + 1, 34, none⟩ = false at f2
      have s2 := ((h2.far (b := w.heap.size + 1 + 1) (by omega) 32 [nv (s / 256)]).far (b := w.heap.size + 1 + 1) (by omega) 33 [nv (s / 16 % 16)]).far (b := w.heap.size + 1 + 1) (by omega) 34 [nv (s % 16)]
      have s3 := below_setCells (b := w.heap.size + 1 + 1) (by omega) [nv (s % 16)] 34 w _ (below_setCells (b := w.heap.size + 1 + 1) (by omega) [nv (s / 16 % 16)] 33 w _ (below_setCells (b := w.heap.size + 1 + 1) (by omega) [nv (s / 256)] 32 w wr h3))
      rw [x1, x2, x3] at s2 s3
      have hd := D35.of hdl
      obtain ⟨D, hD⟩ : ∃ x, x = (Sg.digits l).map nv := ⟨_, rfl⟩
      rw [← hD] at hd r3
      obtain ⟨V, hV⟩ : ∃ x, x = ((wr.setCell ⟨w.heap.size + 1 + 1, 32, none⟩ (.int .i64 ((s : Int) / 256))).setCell ⟨w.heap.size + 1 + 1, 33, none⟩ (.int .i64 ((s : Int) / 16 % 16))).setCell ⟨w.heap.size + 1 + 1, 34, none⟩ (.int .i64 ((s : Int) % 16)) := ⟨_, rfl⟩
      change Row _ _ (((wr.setCell ⟨w.heap.size + 1 + 1, 32, none⟩ (.int .i64 ((s : Int) / 256))).setCell ⟨w.heap.size + 1 + 1, 33, none⟩ (.int .i64 ((s : Int) / 16 % 16))).setCell ⟨w.heap.size + 1 + 1, 34, none⟩ (.int .i64 ((s : Int) % 16))) at s2
      change Below _ _ (((wr.setCell ⟨w.heap.size + 1 + 1, 32, none⟩ (.int .i64 ((s : Int) / 256))).setCell ⟨w.heap.size + 1 + 1, 33, none⟩ (.int .i64 ((s : Int) / 16 % 16))).setCell ⟨w.heap.size + 1 + 1, 34, none⟩ (.int .i64 ((s : Int) % 16))) at s3
      rw [← hV] at r3 s2 s3
      have HDD := Lib.hid hd
      have HDE := Lib.hid hD
      have R2 := Lib.hid r3.range
      have B1 := Lib.hid s3
      have T1 := Lib.hid (s2.there 0 D.toArray.size (by rw [hd.Z, fillZ_len _ _ (by simp)]; omega))
      have HV := Lib.hid hV
      clear h1 h2 h3 h4 hnl hdl hd0 r1 r2 r3 s2 s3 x1 x2 x3 l1 l2 l3 hd hD hV R1 R3 B3 hrb hk hlt
      unfold nv
      go_upto_region 12 with fail
      rw [← HV.out]
      go_wp2_with (first | (with_reducible refine wpList_load_mid rfl 25 (.tmp 3) rfl (w.heap.size + 1 + 1) 0 rfl D _ R2.out Tryd.underlying25 rfl HDD.out.I ?_) | (with_reducible refine wpList_store_mid rfl 25 (.tmp 2) (.tmp 50) rfl (w.heap.size + 1) 0 D.toArray rfl rfl T1.out HDD.out.J HDD.out.O ?_))
      have HRR := Lib.hid (World.rangeAt_setCells_same V (w.heap.size + 1) 0 D.toArray.toList (by simpa using T1.out))
      refine bodyPost_ret (results_cell_mid rfl _ _ _ (w.heap.size + 1) 0 D _ rfl HRR.out Tryd.underlying25 rfl HDD.out.I) rfl ?_
      exact ⟨by rw [HDE.out], below_setCells (by omega) _ 0 _ _ B1.out⟩
end Go.Proofs.YtdbdlhgkhnenfaaDoor
