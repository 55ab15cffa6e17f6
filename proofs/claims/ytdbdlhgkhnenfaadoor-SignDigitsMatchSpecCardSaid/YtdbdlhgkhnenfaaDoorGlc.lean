/-
  voxellaw03.SignDigitsMatchSpec, its walk.
-/
import Derived.Test.YtdbdlhgkhnenfaaDoorGst
import Derived.Test.YtdbdlhgkhnenfaaDoorGsg
namespace Go.Proofs.YtdbdlhgkhnenfaaDoor
open Go.RowKit

theorem run_part_int {P : Program} (w : World) (e : TypeId) (he : P.underlying e = some (.int .i64)) (a : List Nat) (i : Nat) (hi : i < a.length) :
    (part e (a.map nv).toArray i).run P w = .ok (nv (a.getD i 0)) w := by
  simp [part, isAgg, run_underlying he, hi, nv]

theorem run_eq_ints {P : Program} (w : World) (t e : TypeId) (N : Nat) (hu : P.underlying t = some (.array N e)) (he : P.underlying e = some (.int .i64)) (hs : (P.info? e).map (·.size) = some 1) (a : List Nat) (ha : a.length = N) (d : Nat) :
    (Op.equalIn (d + 2) t (.agg (a.map nv).toArray) (.agg (a.map nv).toArray)).run P w = .ok true w := by
  cases hq : P.info? e with
  | none => simp [hq] at hs
  | some inf =>
    have h1 : inf.size = 1 := by simpa [hq] using hs
    rw [Op.equalIn]
    simp only [Sem.run_bind, run_underlying hu, Result.andThen_ok, sizeOf, typeInfo, run_program, hq, Sem.run_pure, h1, Nat.mul_one]
    rw [Std.Legacy.Range.forIn_eq_forIn_range']
    rw [run_loop (fun i => a.getD i 0 == a.getD i 0)]
    · simp
    · intro i hi s w
      have hi2 : i < N := by simpa [List.mem_range'_1] using hi
      simp only [Sem.run_bind, run_part_int w e he a i (by omega), Result.andThen_ok, nv, run_equalIn_int w d e .i64 .i64 _ _ he]
      simp
theorem run_eq35 (w : World) (a : List Nat) (ha : a.length = 35) : (Op.equalIn 10000 25 (.agg (a.map nv).toArray) (.agg (a.map nv).toArray)).run Tryd.prog w = .ok true w :=
  run_eq_ints w 25 3 35 Tryd.underlying25 Tryd.underlying3 (by kernel_rfl) a ha 9998

set_option maxRecDepth 1000000 in
set_option maxHeartbeats 4000000 in
theorem signDigits_law (d : List UInt8) (h i : Int) (w : World) (hT : Tab w) (hd : d.length = 16) (hi : -9223372036854775808 ≤ i ∧ i ≤ 9223372036854775807) :
    Calls Tryd.prog 3 #[.agg (d.map bv).toArray, .int .i64 h, .int .i64 i] w
      fun e w' => e = .returned (.bool true) ∧ Below w.heap.size w w' := by
  have BX := Lib.hid (Row.newl w (d.map bv) 23)
  have g0 := Gr.al w (.cells (d.map bv).toArray 23)
  obtain ⟨u, hu⟩ : ∃ x, x = w.alloc (.cells (d.map bv).toArray 23) := ⟨_, rfl⟩
  rw [← hu] at BX g0
  have HU := Lib.hid hu
  have C := Lib.hid (sanity_any u (hT.below g0))
  have B0 : Hid (Below w.heap.size w u) := Lib.hid g0
  have DD := Lib.hid (D16.of hd)
  obtain ⟨q, hq⟩ : ∃ x, x = w.heap.size := ⟨_, rfl⟩
  rw [← hq] at BX
  have HQ := Lib.hid hq
  have CD := Lib.hid (fun (W : World) => digits_any d W hd)
  have CRD := Lib.hid (fun (W : World) => rdigits_any d W hd)
  have hdl := Sg.digits_len hd
  have hds := Sg.digits_get_le hd
  generalize Sg.digits d = ds at CD CRD hdl hds
  have HEQ := Lib.hid (fun W => run_eq35 W ds hdl)
  have CN := Lib.hid (fun W => count_any h W)
  have RCN := Lib.hid (fun W => rcount_any h W)
  have CZ := Lib.hid (fun W => size_any h i W hi)
  have RCZ := Lib.hid (fun W => rsize_any h i W hi)
  have HDL := Lib.hid hdl
  have HDS := Lib.hid hds
  have DDS := Lib.hid (D35.of hdl)
  clear hu g0 hq hT hd hi hdl hds
  go_enter Tryd.func3, Tryd.ntmps3
  go_upto_region 1 with fail
  rw [← HU.out, ← HQ.out]
  clear HU HQ
  go_wp2_with fail
  refine C.out.mono ?_
  rintro e w1 ⟨rfl, b1⟩
  have B1 := Lib.hid (B0.out.trans (b1.mono B0.out.size))
  have X1 := Lib.hid (BX.out.below b1)
  clear b1 C B0 BX
  go_wp2_with (with_reducible refine wpList_load_mid rfl 23 (.tmp 3) rfl q 0 rfl (d.map bv) _ X1.out.range Tryd.underlying23 rfl DD.out.I ?_)
  refine (CD.out w1).mono ?_
  rintro e w2 ⟨rfl, b2⟩
  go_upto_region 3 with (with_reducible refine wpList_store_new w2 rfl 25 (.tmp 8) (.tmp 12) rfl _ (ds.map nv).toArray rfl rfl DDS.out.J (Eq.trans (b := 35) (by kernel_rfl) DDS.out.Z.symm) DDS.out.O ?_)
  have rd := Row.newl w2 (ds.map nv) 25
  have gv := Gr.trans (show Gr w1 w2 from b2) (Gr.al w2 (.cells (ds.map nv).toArray 25))
  obtain ⟨gd, hgd⟩ : ∃ x, x = w2.heap.size := ⟨_, rfl⟩
  obtain ⟨w8, hV⟩ : ∃ x, x = w2.alloc (.cells (ds.map nv).toArray 25) := ⟨_, rfl⟩
  rw [← hV] at rd gv ⊢
  rw [← hgd] at rd ⊢
  have RW := Lib.hid rd
  have XW := Lib.hid (X1.out.below gv)
  have B8 := Lib.hid (Gr.to B1.out gv)
  clear rd gv hgd hV b2 B1 X1 CD
  go_wp2_with fail
  go_loopw [9] (fun i' wr => ∃ k : Nat, i' = .int .i64 (k : Int) ∧ k ≤ 35 ∧ wr = w8) (fun i' _ => 35 - (intOf i').toNat)
  case atStart => exact ⟨0, rfl, by omega, rfl⟩
  case round =>
    obtain ⟨k, rfl, hk, rfl⟩ := hrel
    by_cases hlt : k < 35
    · have hcn0 : (ds.map nv)[k]? = some (nv (ds.getD k 0)) := by rw [List.getElem?_map, List.getD_eq_getElem?_getD, List.getElem?_eq_getElem (by rw [HDL.out]; exact hlt)]; rfl
      have hdk := HDS.out k
      generalize ds.getD k 0 = x at hcn0 hdk
      have hcell : wr.cell? ⟨gd, k, none⟩ = some (.int .i64 (x : Int)) := (RW.out k _ hcn0).1
      have c1 : decide ((x : Int) < 0) = false := decide_eq_false (by omega)
      have c2 : decide ((15 : Int) < (x : Int)) = false := decide_eq_false (by omega)
      clear hcn0
      go_wp2_with fail
      first
        | exact ⟨⟨k + 1, by go_num, by omega, rfl⟩, by simp [intOf]; omega⟩
        | (go_roundw
           case rel => exact ⟨k + 1, by go_num, by omega, by first | rfl | trivial⟩
           case measure => simp [intOf]; omega)
    · have hk35 : k = 35 := by omega
      subst hk35
      clear hlt hk
      go_wp2_with fail
      refine wpK_region (by kernel_rfl) ?_
      refine wpK_ta (i := 0) (some 27) rfl rfl (by kernel_rfl) (fun _ _ _ h => h) (Or.inl ⟨rfl, fun _ => rfl⟩) ?_
      simp only [Act.put, List.setIfInBounds_toArray, List.set_cons_zero, List.set_cons_succ]
      refine wpK_ta (i := 1) (some 28) rfl rfl (by kernel_rfl) (fun _ _ _ h => h) (Or.inl ⟨rfl, fun _ => rfl⟩) ?_
      simp only [Act.put, List.setIfInBounds_toArray, List.set_cons_zero, List.set_cons_succ]
      refine wpK_tk (i := 2) (some 29) rfl rfl (by kernel_rfl) (fun _ _ _ h => h) (.load_mid (by rfl) 25 (.tmp 8) rfl (gd) (0) rfl (ds.map nv) _ (fun W hg => (RW.out.below hg.un).range) Tryd.underlying25 rfl DDS.out.I) ?_
      simp only [Act.put, List.setIfInBounds_toArray, List.set_cons_zero, List.set_cons_succ]
      refine wpK_tk (i := 3) (some 30) rfl rfl (by kernel_rfl) (fun _ _ _ h => h) (.load_mid (by rfl) 23 (.tmp 3) rfl (q) (0) rfl (d.map bv) _ (fun W hg => (XW.out.below hg.un).range) Tryd.underlying23 rfl DD.out.I) ?_
      simp only [Act.put, List.setIfInBounds_toArray, List.set_cons_zero, List.set_cons_succ]
      refine wpK_tk (i := 4) (some 31) (v := .agg (ds.map nv).toArray) rfl rfl (by kernel_rfl) (fun _ _ _ h => h) (.call (f := 11) (args := #[.agg (d.map bv).toArray]) (by rfl) (fun W => by go_simp) (fun W hg => CRD.out W)) ?_
      simp only [Act.put, List.setIfInBounds_toArray, List.set_cons_zero, List.set_cons_succ]
      refine wpK_ta (i := 5) (some 32) (v := .bool true) rfl rfl (by kernel_rfl) (fun _ _ _ h => h) (Or.inl ⟨by rfl, fun W => by (have hc := HEQ.out W; go_simp)⟩) ?_
      simp only [Act.put, List.setIfInBounds_toArray, List.set_cons_zero, List.set_cons_succ]
      refine wpK_ta (i := 6) (some 33) (v := .bool true) rfl rfl (by kernel_rfl) (fun _ _ _ h => h) (Or.inl ⟨by rfl, fun W => by go_simp⟩) ?_
      simp only [Act.put, List.setIfInBounds_toArray, List.set_cons_zero, List.set_cons_succ]
      refine wpK_ta (i := 7) (some 34) rfl rfl (by kernel_rfl) (fun _ _ _ h => h) (Or.inl ⟨rfl, fun _ => rfl⟩) ?_
      simp only [Act.put, List.setIfInBounds_toArray, List.set_cons_zero, List.set_cons_succ]
      refine wpK_ta (i := 8) (some 35) rfl rfl (by kernel_rfl) (fun _ _ _ h => h) (Or.inl ⟨rfl, fun _ => rfl⟩) ?_
      simp only [Act.put, List.setIfInBounds_toArray, List.set_cons_zero, List.set_cons_succ]
      refine wpK_ta (i := 10) (some 37) rfl rfl (by kernel_rfl) (fun _ _ _ h => h) (Or.inl ⟨rfl, fun _ => rfl⟩) ?_
      simp only [Act.put, List.setIfInBounds_toArray, List.set_cons_zero, List.set_cons_succ]
      refine wpK_tk (i := 9) (some 36) (v := .int .i64 (cnt h)) rfl rfl (by kernel_rfl) (fun _ _ _ h => h) (.call (f := 12) (args := #[.int .i64 h]) (by rfl) (fun W => by go_simp) (fun W hg => (CN.out W).mono (fun e w2 hh => ⟨hh.1, by rw [hh.2]; exact Below.refl _ _⟩))) ?_
      simp only [Act.put, List.setIfInBounds_toArray, List.set_cons_zero, List.set_cons_succ]
      refine wpK_tk (i := 11) (some 38) (v := .int .i64 (cnt h)) rfl rfl (by kernel_rfl) (fun _ _ _ h => h) (.call (f := 13) (args := #[.int .i64 h]) (by rfl) (fun W => by go_simp) (fun W hg => (RCN.out W).mono (fun e w2 hh => ⟨hh.1, by rw [hh.2]; exact Below.refl _ _⟩))) ?_
      simp only [Act.put, List.setIfInBounds_toArray, List.set_cons_zero, List.set_cons_succ]
      refine wpK_ta (i := 12) (some 39) (v := .bool true) rfl rfl (by kernel_rfl) (fun _ _ _ h => h) (Or.inl ⟨by rfl, fun W => by go_simp⟩) ?_
      simp only [Act.put, List.setIfInBounds_toArray, List.set_cons_zero, List.set_cons_succ]
      refine wpK_ta (i := 13) (some 40) (v := .bool true) rfl rfl (by kernel_rfl) (fun _ _ _ h => h) (Or.inl ⟨by rfl, fun W => by go_simp⟩) ?_
      simp only [Act.put, List.setIfInBounds_toArray, List.set_cons_zero, List.set_cons_succ]
      refine wpK_ta (i := 14) (some 41) rfl rfl (by kernel_rfl) (fun _ _ _ h => h) (Or.inl ⟨rfl, fun _ => rfl⟩) ?_
      simp only [Act.put, List.setIfInBounds_toArray, List.set_cons_zero, List.set_cons_succ]
      refine wpK_ta (i := 15) (some 42) rfl rfl (by kernel_rfl) (fun _ _ _ h => h) (Or.inl ⟨rfl, fun _ => rfl⟩) ?_
      simp only [Act.put, List.setIfInBounds_toArray, List.set_cons_zero, List.set_cons_succ]
      refine wpK_ta (i := 16) (some 43) rfl rfl (by kernel_rfl) (fun _ _ _ h => h) (Or.inl ⟨rfl, fun _ => rfl⟩) ?_
      simp only [Act.put, List.setIfInBounds_toArray, List.set_cons_zero, List.set_cons_succ]
      refine wpK_ta (i := 18) (some 45) rfl rfl (by kernel_rfl) (fun _ _ _ h => h) (Or.inl ⟨rfl, fun _ => rfl⟩) ?_
      simp only [Act.put, List.setIfInBounds_toArray, List.set_cons_zero, List.set_cons_succ]
      refine wpK_ta (i := 19) (some 46) rfl rfl (by kernel_rfl) (fun _ _ _ h => h) (Or.inl ⟨rfl, fun _ => rfl⟩) ?_
      simp only [Act.put, List.setIfInBounds_toArray, List.set_cons_zero, List.set_cons_succ]
      refine wpK_tk (i := 17) (some 44) (v := .int .i64 (siz h i)) rfl rfl (by kernel_rfl) (fun _ _ _ h => h) (.call (f := 14) (args := #[.int .i64 h, .int .i64 i]) (by rfl) (fun W => by go_simp) (fun W hg => CZ.out W)) ?_
      simp only [Act.put, List.setIfInBounds_toArray, List.set_cons_zero, List.set_cons_succ]
      refine wpK_tk (i := 20) (some 47) (v := .int .i64 (siz h i)) rfl rfl (by kernel_rfl) (fun _ _ _ h => h) (.call (f := 15) (args := #[.int .i64 h, .int .i64 i]) (by rfl) (fun W => by go_simp) (fun W hg => RCZ.out W)) ?_
      simp only [Act.put, List.setIfInBounds_toArray, List.set_cons_zero, List.set_cons_succ]
      refine wpK_ta (i := 21) (some 48) (v := .bool true) rfl rfl (by kernel_rfl) (fun _ _ _ h => h) (Or.inl ⟨by rfl, fun W => by go_simp⟩) ?_
      simp only [Act.put, List.setIfInBounds_toArray, List.set_cons_zero, List.set_cons_succ]
      refine wpK_ta (i := 22) (some 49) (v := .bool true) rfl rfl (by kernel_rfl) (fun _ _ _ h => h) (Or.inl ⟨by rfl, fun W => by go_simp⟩) ?_
      simp only [Act.put, List.setIfInBounds_toArray, List.set_cons_zero, List.set_cons_succ]
      refine wpK_ta (i := 23) (some 6) (v := .bool true) rfl rfl (by kernel_rfl) (fun _ _ _ h => h) (Or.inl ⟨by rfl, fun W => by go_simp⟩) ?_
      simp only [Act.put, List.setIfInBounds_toArray, List.set_cons_zero, List.set_cons_succ]
      refine wpK_done (by kernel_rfl) (fun W9 hgW9 => ?_) _
      go_wp2_with fail
      go_ret
      exact ⟨rfl, Gr.to B8.out hgW9.un⟩
end Go.Proofs.YtdbdlhgkhnenfaaDoor
