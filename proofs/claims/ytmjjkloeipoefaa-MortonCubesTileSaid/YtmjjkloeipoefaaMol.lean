/-
  The number of bits of an integer: contracts of math/bits.Len64 and Len below 2^42.
-/
import Derived.Test.YtmjjkloeipoefaaMol0
import Derived.Handy
namespace Go.Proofs.Ytmjjkloeipoefaa
open Go.RowKit
set_option linter.unusedVariables false
set_option maxRecDepth 1000000 in
set_option maxHeartbeats 4000000 in
theorem len64_a (x : Nat) (w : World) (h : x < 256) :
    Calls Try.prog 50 #[.int .u64 (x : Int)] w fun e w' => e = .returned (.int .i64 (Lib.bitLen x : Int)) ∧ Below w.heap.size w w' := by
  have G0 := Lib.hid (Below.refl w.heap.size w)
  go_enter Try.func50, Try.ntmps50
  go_upto_region 1 with fail
  refine wpG_region ?_
  refine wpG_tk (some 3) (v := .int .u64 (x : Int)) rfl (.val (by rfl) (fun _ _ => rfl)) ?_
  simp only [Act.put, List.setIfInBounds_toArray, List.set_cons_zero, List.set_cons_succ]
  refine wpG_tk (some 4) (v := .bool false) rfl (.val (by rfl) (fun W hg => by have hq : ¬ ((x : Int) ≥ 4294967296) := (by omega); go_simp)) ?_
  simp only [Act.put, List.setIfInBounds_toArray, List.set_cons_zero, List.set_cons_succ]
  refine wpG_done (fun V1 hv2 => ?_)
  have GC3 := Lib.hid hv2
  clear hv2
  go_upto_region 4 with fail
  refine wpG_region ?_
  refine wpG_tk (some 7) (v := .int .u64 (x : Int)) rfl (.val (by rfl) (fun _ _ => rfl)) ?_
  simp only [Act.put, List.setIfInBounds_toArray, List.set_cons_zero, List.set_cons_succ]
  refine wpG_tk (some 8) (v := .bool false) rfl (.val (by rfl) (fun W hg => by have hq : ¬ ((x : Int) ≥ 65536) := (by omega); go_simp)) ?_
  simp only [Act.put, List.setIfInBounds_toArray, List.set_cons_zero, List.set_cons_succ]
  refine wpG_done (fun V4 hv5 => ?_)
  have GC6 := Lib.hid (GC3.out.trans hv5)
  clear hv5
  go_upto_region 7 with fail
  refine wpG_region ?_
  refine wpG_tk (some 13) (v := .int .u64 (x : Int)) rfl (.val (by rfl) (fun _ _ => rfl)) ?_
  simp only [Act.put, List.setIfInBounds_toArray, List.set_cons_zero, List.set_cons_succ]
  refine wpG_tk (some 14) (v := .bool false) rfl (.val (by rfl) (fun W hg => by have hq : ¬ ((x : Int) ≥ 256) := (by omega); go_simp)) ?_
  simp only [Act.put, List.setIfInBounds_toArray, List.set_cons_zero, List.set_cons_succ]
  refine wpG_done (fun V7 hv8 => ?_)
  have GC9 := Lib.hid (GC6.out.trans hv8)
  clear hv8
  go_upto_region 10 with fail
  have h256 : x < 256 := by omega
  have hl8 := len8_nat x h256
  have hm : (x : Int) % 256 = x := by omega
  have HL := Lib.hid hl8.1
  have hl := hl8.2
  clear hl8
  obtain ⟨lv, hlv⟩ : ∃ l, l = Lib.bitLen x := ⟨_, rfl⟩
  rw [← hlv] at hl
  have HV := Lib.hid hlv
  clear hlv
  refine wpG_region ?_
  refine wpG_tk (some 19) (v := .int .i64 0) rfl (.val (by rfl) (fun _ _ => rfl)) ?_
  simp only [Act.put, List.setIfInBounds_toArray, List.set_cons_zero, List.set_cons_succ]
  refine wpG_tk (some 20) (v := .int .u64 (x : Int)) rfl (.val (by rfl) (fun _ _ => rfl)) ?_
  simp only [Act.put, List.setIfInBounds_toArray, List.set_cons_zero, List.set_cons_succ]
  refine wpG_tk (some 21) (v := .int .u8 (x : Int)) rfl (.val (by rfl) (fun W hg => by go_simp; exact wrap_u8 _ h256)) ?_
  simp only [Act.put, List.setIfInBounds_toArray, List.set_cons_zero, List.set_cons_succ]
  refine wpG_tk (some 22) (v := .int .u8 (lv : Int)) rfl (.val (by rfl) (fun W hg => by rw [HV.out]; go_simp; rw [dif_pos (show x < Lib.len8tab.size by rw [Lib.len8tab_size]; omega)]; simp only [tab_at _ h256]; go_simp)) ?_
  simp only [Act.put, List.setIfInBounds_toArray, List.set_cons_zero, List.set_cons_succ]
  refine wpG_tk (some 23) (v := .int .i64 (lv : Int)) rfl (.val (by rfl) (fun W hg => by go_simp; exact wrap_nat _ (by omega))) ?_
  simp only [Act.put, List.setIfInBounds_toArray, List.set_cons_zero, List.set_cons_succ]
  refine wpG_tk (some 24) (v := .int .i64 (lv : Int)) rfl (.val (by rfl) (fun W hg => by (first | (go_simp; done) | (go_simp; rw [IntWalk.i64_in _ (by omega)])))) ?_
  simp only [Act.put, List.setIfInBounds_toArray, List.set_cons_zero, List.set_cons_succ]
  refine wpG_tk (some 2) (v := .int .i64 (lv : Int)) rfl (.val (by rfl) (fun _ _ => rfl)) ?_
  simp only [Act.put, List.setIfInBounds_toArray, List.set_cons_zero, List.set_cons_succ]
  refine wpG_done (fun V10 hv11 => ?_)
  have GC12 := Lib.hid (GC9.out.trans hv11)
  clear hv11
  go_wp2_with fail
  go_ret
  exact ⟨ret_int (by rw [HV.out]; first | done | (simp; done) | omega), Gr.to G0.out GC12.out⟩
set_option maxRecDepth 1000000 in
set_option maxHeartbeats 4000000 in
theorem len64_b (x : Nat) (w : World) (h : 256 ≤ x) (h2 : x < 65536) :
    Calls Try.prog 50 #[.int .u64 (x : Int)] w fun e w' => e = .returned (.int .i64 (Lib.bitLen x : Int)) ∧ Below w.heap.size w w' := by
  have G0 := Lib.hid (Below.refl w.heap.size w)
  go_enter Try.func50, Try.ntmps50
  go_upto_region 1 with fail
  refine wpG_region ?_
  refine wpG_tk (some 3) (v := .int .u64 (x : Int)) rfl (.val (by rfl) (fun _ _ => rfl)) ?_
  simp only [Act.put, List.setIfInBounds_toArray, List.set_cons_zero, List.set_cons_succ]
  refine wpG_tk (some 4) (v := .bool false) rfl (.val (by rfl) (fun W hg => by have hq : ¬ ((x : Int) ≥ 4294967296) := (by omega); go_simp)) ?_
  simp only [Act.put, List.setIfInBounds_toArray, List.set_cons_zero, List.set_cons_succ]
  refine wpG_done (fun V1 hv2 => ?_)
  have GC3 := Lib.hid hv2
  clear hv2
  go_upto_region 4 with fail
  refine wpG_region ?_
  refine wpG_tk (some 7) (v := .int .u64 (x : Int)) rfl (.val (by rfl) (fun _ _ => rfl)) ?_
  simp only [Act.put, List.setIfInBounds_toArray, List.set_cons_zero, List.set_cons_succ]
  refine wpG_tk (some 8) (v := .bool false) rfl (.val (by rfl) (fun W hg => by have hq : ¬ ((x : Int) ≥ 65536) := (by omega); go_simp)) ?_
  simp only [Act.put, List.setIfInBounds_toArray, List.set_cons_zero, List.set_cons_succ]
  refine wpG_done (fun V4 hv5 => ?_)
  have GC6 := Lib.hid (GC3.out.trans hv5)
  clear hv5
  go_upto_region 7 with fail
  refine wpG_region ?_
  refine wpG_tk (some 13) (v := .int .u64 (x : Int)) rfl (.val (by rfl) (fun _ _ => rfl)) ?_
  simp only [Act.put, List.setIfInBounds_toArray, List.set_cons_zero, List.set_cons_succ]
  refine wpG_tk (some 14) (v := .bool true) rfl (.val (by rfl) (fun W hg => by have hq : ((x : Int) ≥ 256) := (by omega); go_simp)) ?_
  simp only [Act.put, List.setIfInBounds_toArray, List.set_cons_zero, List.set_cons_succ]
  refine wpG_done (fun V7 hv8 => ?_)
  have GC9 := Lib.hid (GC6.out.trans hv8)
  clear hv8
  obtain ⟨y2, hy2⟩ : ∃ y, y = x / 256 := ⟨_, rfl⟩
  have hu : (x : Int) / 256 = y2 := by omega
  have hc : y2 * 256 ≤ x ∧ x < y2 * 256 + 256 := by omega
  have HY2 := Lib.hid hy2
  have HU := Lib.hid hu
  clear hy2 hu
  go_upto_region 8 with fail
  refine wpG_region ?_
  refine wpG_tk (some 15) (v := .int .u64 (x : Int)) rfl (.val (by rfl) (fun _ _ => rfl)) ?_
  simp only [Act.put, List.setIfInBounds_toArray, List.set_cons_zero, List.set_cons_succ]
  refine wpG_tk (some 16) (v := .int .u64 (y2 : Int)) rfl (.val (by rfl) (fun W hg => by go_simp; exact HU.out)) ?_
  simp only [Act.put, List.setIfInBounds_toArray, List.set_cons_zero, List.set_cons_succ]
  refine wpG_tk (some 0) (v := .int .u64 (y2 : Int)) rfl (.val (by rfl) (fun _ _ => rfl)) ?_
  simp only [Act.put, List.setIfInBounds_toArray, List.set_cons_zero]
  refine wpG_done (fun V10 hv11 => ?_)
  have GC12 := Lib.hid (GC9.out.trans hv11)
  clear hv11
  go_upto_region 9 with fail
  refine wpG_region ?_
  refine wpG_tk (some 17) (v := .int .i64 0) rfl (.val (by rfl) (fun _ _ => rfl)) ?_
  simp only [Act.put, List.setIfInBounds_toArray, List.set_cons_zero, List.set_cons_succ]
  refine wpG_tk (some 18) (v := .int .i64 8) rfl (.val (by rfl) (fun W hg => by go_simp <;> rfl)) ?_
  simp only [Act.put, List.setIfInBounds_toArray, List.set_cons_zero, List.set_cons_succ]
  refine wpG_tk (some 2) (v := .int .i64 8) rfl (.val (by rfl) (fun _ _ => rfl)) ?_
  simp only [Act.put, List.setIfInBounds_toArray, List.set_cons_zero, List.set_cons_succ]
  refine wpG_done (fun V13 hv14 => ?_)
  have GC15 := Lib.hid (GC12.out.trans hv14)
  clear hv14
  go_upto_region 10 with fail
  have h256 : y2 < 256 := by omega
  have hl8 := len8_nat y2 h256
  have hm : (y2 : Int) % 256 = y2 := by omega
  have HL := Lib.hid hl8.1
  have hl := hl8.2
  clear hl8
  obtain ⟨lv, hlv⟩ : ∃ l, l = Lib.bitLen y2 := ⟨_, rfl⟩
  rw [← hlv] at hl
  have HV := Lib.hid hlv
  clear hlv
  refine wpG_region ?_
  refine wpG_tk (some 19) (v := .int .i64 8) rfl (.val (by rfl) (fun _ _ => rfl)) ?_
  simp only [Act.put, List.setIfInBounds_toArray, List.set_cons_zero, List.set_cons_succ]
  refine wpG_tk (some 20) (v := .int .u64 (y2 : Int)) rfl (.val (by rfl) (fun _ _ => rfl)) ?_
  simp only [Act.put, List.setIfInBounds_toArray, List.set_cons_zero, List.set_cons_succ]
  refine wpG_tk (some 21) (v := .int .u8 (y2 : Int)) rfl (.val (by rfl) (fun W hg => by go_simp; exact wrap_u8 _ h256)) ?_
  simp only [Act.put, List.setIfInBounds_toArray, List.set_cons_zero, List.set_cons_succ]
  refine wpG_tk (some 22) (v := .int .u8 (lv : Int)) rfl (.val (by rfl) (fun W hg => by rw [HV.out]; go_simp; rw [dif_pos (show y2 < Lib.len8tab.size by rw [Lib.len8tab_size]; omega)]; simp only [tab_at _ h256]; go_simp)) ?_
  simp only [Act.put, List.setIfInBounds_toArray, List.set_cons_zero, List.set_cons_succ]
  refine wpG_tk (some 23) (v := .int .i64 (lv : Int)) rfl (.val (by rfl) (fun W hg => by go_simp; exact wrap_nat _ (by omega))) ?_
  simp only [Act.put, List.setIfInBounds_toArray, List.set_cons_zero, List.set_cons_succ]
  refine wpG_tk (some 24) (v := .int .i64 (8 + (lv : Int))) rfl (.val (by rfl) (fun W hg => by (first | (go_simp; done) | (go_simp; rw [IntWalk.i64_in _ (by omega)])))) ?_
  simp only [Act.put, List.setIfInBounds_toArray, List.set_cons_zero, List.set_cons_succ]
  refine wpG_tk (some 2) (v := .int .i64 (8 + (lv : Int))) rfl (.val (by rfl) (fun _ _ => rfl)) ?_
  simp only [Act.put, List.setIfInBounds_toArray, List.set_cons_zero, List.set_cons_succ]
  refine wpG_done (fun V16 hv17 => ?_)
  have GC18 := Lib.hid (GC15.out.trans hv17)
  clear hv17
  go_wp2_with fail
  go_ret
  exact ⟨ret_int (by have e2 := Lib.bitLen_shift8 x (by omega) (by omega); rw [← HY2.out] at e2; have e := HV.out; omega), Gr.to G0.out GC18.out⟩
set_option maxRecDepth 1000000 in
set_option maxHeartbeats 4000000 in
theorem len64_c (x : Nat) (w : World) (h : 65536 ≤ x) (h2 : x < 16777216) :
    Calls Try.prog 50 #[.int .u64 (x : Int)] w fun e w' => e = .returned (.int .i64 (Lib.bitLen x : Int)) ∧ Below w.heap.size w w' := by
  have G0 := Lib.hid (Below.refl w.heap.size w)
  go_enter Try.func50, Try.ntmps50
  go_upto_region 1 with fail
  refine wpG_region ?_
  refine wpG_tk (some 3) (v := .int .u64 (x : Int)) rfl (.val (by rfl) (fun _ _ => rfl)) ?_
  simp only [Act.put, List.setIfInBounds_toArray, List.set_cons_zero, List.set_cons_succ]
  refine wpG_tk (some 4) (v := .bool false) rfl (.val (by rfl) (fun W hg => by have hq : ¬ ((x : Int) ≥ 4294967296) := (by omega); go_simp)) ?_
  simp only [Act.put, List.setIfInBounds_toArray, List.set_cons_zero, List.set_cons_succ]
  refine wpG_done (fun V1 hv2 => ?_)
  have GC3 := Lib.hid hv2
  clear hv2
  go_upto_region 4 with fail
  refine wpG_region ?_
  refine wpG_tk (some 7) (v := .int .u64 (x : Int)) rfl (.val (by rfl) (fun _ _ => rfl)) ?_
  simp only [Act.put, List.setIfInBounds_toArray, List.set_cons_zero, List.set_cons_succ]
  refine wpG_tk (some 8) (v := .bool true) rfl (.val (by rfl) (fun W hg => by have hq : ((x : Int) ≥ 65536) := (by omega); go_simp)) ?_
  simp only [Act.put, List.setIfInBounds_toArray, List.set_cons_zero, List.set_cons_succ]
  refine wpG_done (fun V4 hv5 => ?_)
  have GC6 := Lib.hid (GC3.out.trans hv5)
  clear hv5
  obtain ⟨y1, hy1⟩ : ∃ y, y = x / 65536 := ⟨_, rfl⟩
  have hu : (x : Int) / 65536 = y1 := by omega
  have hc : y1 * 65536 ≤ x ∧ x < y1 * 65536 + 65536 := by omega
  have HY1 := Lib.hid hy1
  have HU := Lib.hid hu
  clear hy1 hu
  go_upto_region 5 with fail
  refine wpG_region ?_
  refine wpG_tk (some 9) (v := .int .u64 (x : Int)) rfl (.val (by rfl) (fun _ _ => rfl)) ?_
  simp only [Act.put, List.setIfInBounds_toArray, List.set_cons_zero, List.set_cons_succ]
  refine wpG_tk (some 10) (v := .int .u64 (y1 : Int)) rfl (.val (by rfl) (fun W hg => by go_simp; exact HU.out)) ?_
  simp only [Act.put, List.setIfInBounds_toArray, List.set_cons_zero, List.set_cons_succ]
  refine wpG_tk (some 0) (v := .int .u64 (y1 : Int)) rfl (.val (by rfl) (fun _ _ => rfl)) ?_
  simp only [Act.put, List.setIfInBounds_toArray, List.set_cons_zero]
  refine wpG_done (fun V7 hv8 => ?_)
  have GC9 := Lib.hid (GC6.out.trans hv8)
  clear hv8
  go_upto_region 6 with fail
  refine wpG_region ?_
  refine wpG_tk (some 11) (v := .int .i64 0) rfl (.val (by rfl) (fun _ _ => rfl)) ?_
  simp only [Act.put, List.setIfInBounds_toArray, List.set_cons_zero, List.set_cons_succ]
  refine wpG_tk (some 12) (v := .int .i64 16) rfl (.val (by rfl) (fun W hg => by go_simp <;> rfl)) ?_
  simp only [Act.put, List.setIfInBounds_toArray, List.set_cons_zero, List.set_cons_succ]
  refine wpG_tk (some 2) (v := .int .i64 16) rfl (.val (by rfl) (fun _ _ => rfl)) ?_
  simp only [Act.put, List.setIfInBounds_toArray, List.set_cons_zero, List.set_cons_succ]
  refine wpG_done (fun V10 hv11 => ?_)
  have GC12 := Lib.hid (GC9.out.trans hv11)
  clear hv11
  go_upto_region 7 with fail
  refine wpG_region ?_
  refine wpG_tk (some 13) (v := .int .u64 (y1 : Int)) rfl (.val (by rfl) (fun _ _ => rfl)) ?_
  simp only [Act.put, List.setIfInBounds_toArray, List.set_cons_zero, List.set_cons_succ]
  refine wpG_tk (some 14) (v := .bool false) rfl (.val (by rfl) (fun W hg => by have hq : ¬ ((y1 : Int) ≥ 256) := (by omega); go_simp)) ?_
  simp only [Act.put, List.setIfInBounds_toArray, List.set_cons_zero, List.set_cons_succ]
  refine wpG_done (fun V13 hv14 => ?_)
  have GC15 := Lib.hid (GC12.out.trans hv14)
  clear hv14
  go_upto_region 10 with fail
  have h256 : y1 < 256 := by omega
  have hl8 := len8_nat y1 h256
  have hm : (y1 : Int) % 256 = y1 := by omega
  have HL := Lib.hid hl8.1
  have hl := hl8.2
  clear hl8
  obtain ⟨lv, hlv⟩ : ∃ l, l = Lib.bitLen y1 := ⟨_, rfl⟩
  rw [← hlv] at hl
  have HV := Lib.hid hlv
  clear hlv
  refine wpG_region ?_
  refine wpG_tk (some 19) (v := .int .i64 16) rfl (.val (by rfl) (fun _ _ => rfl)) ?_
  simp only [Act.put, List.setIfInBounds_toArray, List.set_cons_zero, List.set_cons_succ]
  refine wpG_tk (some 20) (v := .int .u64 (y1 : Int)) rfl (.val (by rfl) (fun _ _ => rfl)) ?_
  simp only [Act.put, List.setIfInBounds_toArray, List.set_cons_zero, List.set_cons_succ]
  refine wpG_tk (some 21) (v := .int .u8 (y1 : Int)) rfl (.val (by rfl) (fun W hg => by go_simp; exact wrap_u8 _ h256)) ?_
  simp only [Act.put, List.setIfInBounds_toArray, List.set_cons_zero, List.set_cons_succ]
  refine wpG_tk (some 22) (v := .int .u8 (lv : Int)) rfl (.val (by rfl) (fun W hg => by rw [HV.out]; go_simp; rw [dif_pos (show y1 < Lib.len8tab.size by rw [Lib.len8tab_size]; omega)]; simp only [tab_at _ h256]; go_simp)) ?_
  simp only [Act.put, List.setIfInBounds_toArray, List.set_cons_zero, List.set_cons_succ]
  refine wpG_tk (some 23) (v := .int .i64 (lv : Int)) rfl (.val (by rfl) (fun W hg => by go_simp; exact wrap_nat _ (by omega))) ?_
  simp only [Act.put, List.setIfInBounds_toArray, List.set_cons_zero, List.set_cons_succ]
  refine wpG_tk (some 24) (v := .int .i64 (16 + (lv : Int))) rfl (.val (by rfl) (fun W hg => by (first | (go_simp; done) | (go_simp; rw [IntWalk.i64_in _ (by omega)])))) ?_
  simp only [Act.put, List.setIfInBounds_toArray, List.set_cons_zero, List.set_cons_succ]
  refine wpG_tk (some 2) (v := .int .i64 (16 + (lv : Int))) rfl (.val (by rfl) (fun _ _ => rfl)) ?_
  simp only [Act.put, List.setIfInBounds_toArray, List.set_cons_zero, List.set_cons_succ]
  refine wpG_done (fun V16 hv17 => ?_)
  have GC18 := Lib.hid (GC15.out.trans hv17)
  clear hv17
  go_wp2_with fail
  go_ret
  exact ⟨ret_int (by have e1 := Lib.bitLen_shift16 x (by omega) (by omega); rw [← HY1.out] at e1; have e := HV.out; omega), Gr.to G0.out GC18.out⟩
set_option maxRecDepth 1000000 in
set_option maxHeartbeats 4000000 in
theorem len64_d (x : Nat) (w : World) (h : 16777216 ≤ x) (h2 : x < 4294967296) :
    Calls Try.prog 50 #[.int .u64 (x : Int)] w fun e w' => e = .returned (.int .i64 (Lib.bitLen x : Int)) ∧ Below w.heap.size w w' := by
  have G0 := Lib.hid (Below.refl w.heap.size w)
  go_enter Try.func50, Try.ntmps50
  go_upto_region 1 with fail
  refine wpG_region ?_
  refine wpG_tk (some 3) (v := .int .u64 (x : Int)) rfl (.val (by rfl) (fun _ _ => rfl)) ?_
  simp only [Act.put, List.setIfInBounds_toArray, List.set_cons_zero, List.set_cons_succ]
  refine wpG_tk (some 4) (v := .bool false) rfl (.val (by rfl) (fun W hg => by have hq : ¬ ((x : Int) ≥ 4294967296) := (by omega); go_simp)) ?_
  simp only [Act.put, List.setIfInBounds_toArray, List.set_cons_zero, List.set_cons_succ]
  refine wpG_done (fun V1 hv2 => ?_)
  have GC3 := Lib.hid hv2
  clear hv2
  go_upto_region 4 with fail
  refine wpG_region ?_
  refine wpG_tk (some 7) (v := .int .u64 (x : Int)) rfl (.val (by rfl) (fun _ _ => rfl)) ?_
  simp only [Act.put, List.setIfInBounds_toArray, List.set_cons_zero, List.set_cons_succ]
  refine wpG_tk (some 8) (v := .bool true) rfl (.val (by rfl) (fun W hg => by have hq : ((x : Int) ≥ 65536) := (by omega); go_simp)) ?_
  simp only [Act.put, List.setIfInBounds_toArray, List.set_cons_zero, List.set_cons_succ]
  refine wpG_done (fun V4 hv5 => ?_)
  have GC6 := Lib.hid (GC3.out.trans hv5)
  clear hv5
  obtain ⟨y1, hy1⟩ : ∃ y, y = x / 65536 := ⟨_, rfl⟩
  have hu : (x : Int) / 65536 = y1 := by omega
  have hc : y1 * 65536 ≤ x ∧ x < y1 * 65536 + 65536 := by omega
  have HY1 := Lib.hid hy1
  have HU := Lib.hid hu
  clear hy1 hu
  go_upto_region 5 with fail
  refine wpG_region ?_
  refine wpG_tk (some 9) (v := .int .u64 (x : Int)) rfl (.val (by rfl) (fun _ _ => rfl)) ?_
  simp only [Act.put, List.setIfInBounds_toArray, List.set_cons_zero, List.set_cons_succ]
  refine wpG_tk (some 10) (v := .int .u64 (y1 : Int)) rfl (.val (by rfl) (fun W hg => by go_simp; exact HU.out)) ?_
  simp only [Act.put, List.setIfInBounds_toArray, List.set_cons_zero, List.set_cons_succ]
  refine wpG_tk (some 0) (v := .int .u64 (y1 : Int)) rfl (.val (by rfl) (fun _ _ => rfl)) ?_
  simp only [Act.put, List.setIfInBounds_toArray, List.set_cons_zero]
  refine wpG_done (fun V7 hv8 => ?_)
  have GC9 := Lib.hid (GC6.out.trans hv8)
  clear hv8
  go_upto_region 6 with fail
  refine wpG_region ?_
  refine wpG_tk (some 11) (v := .int .i64 0) rfl (.val (by rfl) (fun _ _ => rfl)) ?_
  simp only [Act.put, List.setIfInBounds_toArray, List.set_cons_zero, List.set_cons_succ]
  refine wpG_tk (some 12) (v := .int .i64 16) rfl (.val (by rfl) (fun W hg => by go_simp <;> rfl)) ?_
  simp only [Act.put, List.setIfInBounds_toArray, List.set_cons_zero, List.set_cons_succ]
  refine wpG_tk (some 2) (v := .int .i64 16) rfl (.val (by rfl) (fun _ _ => rfl)) ?_
  simp only [Act.put, List.setIfInBounds_toArray, List.set_cons_zero, List.set_cons_succ]
  refine wpG_done (fun V10 hv11 => ?_)
  have GC12 := Lib.hid (GC9.out.trans hv11)
  clear hv11
  go_upto_region 7 with fail
  refine wpG_region ?_
  refine wpG_tk (some 13) (v := .int .u64 (y1 : Int)) rfl (.val (by rfl) (fun _ _ => rfl)) ?_
  simp only [Act.put, List.setIfInBounds_toArray, List.set_cons_zero, List.set_cons_succ]
  refine wpG_tk (some 14) (v := .bool true) rfl (.val (by rfl) (fun W hg => by have hq : ((y1 : Int) ≥ 256) := (by omega); go_simp)) ?_
  simp only [Act.put, List.setIfInBounds_toArray, List.set_cons_zero, List.set_cons_succ]
  refine wpG_done (fun V13 hv14 => ?_)
  have GC15 := Lib.hid (GC12.out.trans hv14)
  clear hv14
  obtain ⟨y2, hy2⟩ : ∃ y, y = y1 / 256 := ⟨_, rfl⟩
  have hu : (y1 : Int) / 256 = y2 := by omega
  have hc : y2 * 256 ≤ y1 ∧ y1 < y2 * 256 + 256 := by omega
  have HY2 := Lib.hid hy2
  have HU := Lib.hid hu
  clear hy2 hu
  go_upto_region 8 with fail
  refine wpG_region ?_
  refine wpG_tk (some 15) (v := .int .u64 (y1 : Int)) rfl (.val (by rfl) (fun _ _ => rfl)) ?_
  simp only [Act.put, List.setIfInBounds_toArray, List.set_cons_zero, List.set_cons_succ]
  refine wpG_tk (some 16) (v := .int .u64 (y2 : Int)) rfl (.val (by rfl) (fun W hg => by go_simp; exact HU.out)) ?_
  simp only [Act.put, List.setIfInBounds_toArray, List.set_cons_zero, List.set_cons_succ]
  refine wpG_tk (some 0) (v := .int .u64 (y2 : Int)) rfl (.val (by rfl) (fun _ _ => rfl)) ?_
  simp only [Act.put, List.setIfInBounds_toArray, List.set_cons_zero]
  refine wpG_done (fun V16 hv17 => ?_)
  have GC18 := Lib.hid (GC15.out.trans hv17)
  clear hv17
  go_upto_region 9 with fail
  refine wpG_region ?_
  refine wpG_tk (some 17) (v := .int .i64 16) rfl (.val (by rfl) (fun _ _ => rfl)) ?_
  simp only [Act.put, List.setIfInBounds_toArray, List.set_cons_zero, List.set_cons_succ]
  refine wpG_tk (some 18) (v := .int .i64 24) rfl (.val (by rfl) (fun W hg => by go_simp <;> rfl)) ?_
  simp only [Act.put, List.setIfInBounds_toArray, List.set_cons_zero, List.set_cons_succ]
  refine wpG_tk (some 2) (v := .int .i64 24) rfl (.val (by rfl) (fun _ _ => rfl)) ?_
  simp only [Act.put, List.setIfInBounds_toArray, List.set_cons_zero, List.set_cons_succ]
  refine wpG_done (fun V19 hv20 => ?_)
  have GC21 := Lib.hid (GC18.out.trans hv20)
  clear hv20
  go_upto_region 10 with fail
  have h256 : y2 < 256 := by omega
  have hl8 := len8_nat y2 h256
  have hm : (y2 : Int) % 256 = y2 := by omega
  have HL := Lib.hid hl8.1
  have hl := hl8.2
  clear hl8
  obtain ⟨lv, hlv⟩ : ∃ l, l = Lib.bitLen y2 := ⟨_, rfl⟩
  rw [← hlv] at hl
  have HV := Lib.hid hlv
  clear hlv
  refine wpG_region ?_
  refine wpG_tk (some 19) (v := .int .i64 24) rfl (.val (by rfl) (fun _ _ => rfl)) ?_
  simp only [Act.put, List.setIfInBounds_toArray, List.set_cons_zero, List.set_cons_succ]
  refine wpG_tk (some 20) (v := .int .u64 (y2 : Int)) rfl (.val (by rfl) (fun _ _ => rfl)) ?_
  simp only [Act.put, List.setIfInBounds_toArray, List.set_cons_zero, List.set_cons_succ]
  refine wpG_tk (some 21) (v := .int .u8 (y2 : Int)) rfl (.val (by rfl) (fun W hg => by go_simp; exact wrap_u8 _ h256)) ?_
  simp only [Act.put, List.setIfInBounds_toArray, List.set_cons_zero, List.set_cons_succ]
  refine wpG_tk (some 22) (v := .int .u8 (lv : Int)) rfl (.val (by rfl) (fun W hg => by rw [HV.out]; go_simp; rw [dif_pos (show y2 < Lib.len8tab.size by rw [Lib.len8tab_size]; omega)]; simp only [tab_at _ h256]; go_simp)) ?_
  simp only [Act.put, List.setIfInBounds_toArray, List.set_cons_zero, List.set_cons_succ]
  refine wpG_tk (some 23) (v := .int .i64 (lv : Int)) rfl (.val (by rfl) (fun W hg => by go_simp; exact wrap_nat _ (by omega))) ?_
  simp only [Act.put, List.setIfInBounds_toArray, List.set_cons_zero, List.set_cons_succ]
  refine wpG_tk (some 24) (v := .int .i64 (24 + (lv : Int))) rfl (.val (by rfl) (fun W hg => by (first | (go_simp; done) | (go_simp; rw [IntWalk.i64_in _ (by omega)])))) ?_
  simp only [Act.put, List.setIfInBounds_toArray, List.set_cons_zero, List.set_cons_succ]
  refine wpG_tk (some 2) (v := .int .i64 (24 + (lv : Int))) rfl (.val (by rfl) (fun _ _ => rfl)) ?_
  simp only [Act.put, List.setIfInBounds_toArray, List.set_cons_zero, List.set_cons_succ]
  refine wpG_done (fun V22 hv23 => ?_)
  have GC24 := Lib.hid (GC21.out.trans hv23)
  clear hv23
  go_wp2_with fail
  go_ret
  exact ⟨ret_int (by have e1 := Lib.bitLen_shift16 x (by omega) (by omega); rw [← HY1.out] at e1; have e2 := Lib.bitLen_shift8 y1 (by omega) (by omega); rw [← HY2.out] at e2; have e := HV.out; omega), Gr.to G0.out GC24.out⟩
set_option maxRecDepth 1000000 in
set_option maxHeartbeats 4000000 in
theorem len64_e (x : Nat) (w : World) (h : 4294967296 ≤ x) (h2 : x < 1099511627776) :
    Calls Try.prog 50 #[.int .u64 (x : Int)] w fun e w' => e = .returned (.int .i64 (Lib.bitLen x : Int)) ∧ Below w.heap.size w w' := by
  have G0 := Lib.hid (Below.refl w.heap.size w)
  go_enter Try.func50, Try.ntmps50
  go_upto_region 1 with fail
  refine wpG_region ?_
  refine wpG_tk (some 3) (v := .int .u64 (x : Int)) rfl (.val (by rfl) (fun _ _ => rfl)) ?_
  simp only [Act.put, List.setIfInBounds_toArray, List.set_cons_zero, List.set_cons_succ]
  refine wpG_tk (some 4) (v := .bool true) rfl (.val (by rfl) (fun W hg => by have hq : ((x : Int) ≥ 4294967296) := (by omega); go_simp)) ?_
  simp only [Act.put, List.setIfInBounds_toArray, List.set_cons_zero, List.set_cons_succ]
  refine wpG_done (fun V1 hv2 => ?_)
  have GC3 := Lib.hid hv2
  clear hv2
  obtain ⟨y0, hy0⟩ : ∃ y, y = x / 4294967296 := ⟨_, rfl⟩
  have hu : (x : Int) / 4294967296 = y0 := by omega
  have hc : y0 * 4294967296 ≤ x ∧ x < y0 * 4294967296 + 4294967296 := by omega
  have HY0 := Lib.hid hy0
  have HU := Lib.hid hu
  clear hy0 hu
  go_upto_region 2 with fail
  refine wpG_region ?_
  refine wpG_tk (some 5) (v := .int .u64 (x : Int)) rfl (.val (by rfl) (fun _ _ => rfl)) ?_
  simp only [Act.put, List.setIfInBounds_toArray, List.set_cons_zero, List.set_cons_succ]
  refine wpG_tk (some 6) (v := .int .u64 (y0 : Int)) rfl (.val (by rfl) (fun W hg => by go_simp; exact HU.out)) ?_
  simp only [Act.put, List.setIfInBounds_toArray, List.set_cons_zero, List.set_cons_succ]
  refine wpG_tk (some 0) (v := .int .u64 (y0 : Int)) rfl (.val (by rfl) (fun _ _ => rfl)) ?_
  simp only [Act.put, List.setIfInBounds_toArray, List.set_cons_zero]
  refine wpG_done (fun V4 hv5 => ?_)
  have GC6 := Lib.hid (GC3.out.trans hv5)
  clear hv5
  go_upto_region 3 with fail
  refine wpG_region ?_
  refine wpG_tk (some 2) (v := .int .i64 32) rfl (.val (by rfl) (fun _ _ => rfl)) ?_
  simp only [Act.put, List.setIfInBounds_toArray, List.set_cons_zero, List.set_cons_succ]
  refine wpG_done (fun V7 hv8 => ?_)
  have GC9 := Lib.hid (GC6.out.trans hv8)
  clear hv8
  go_upto_region 4 with fail
  refine wpG_region ?_
  refine wpG_tk (some 7) (v := .int .u64 (y0 : Int)) rfl (.val (by rfl) (fun _ _ => rfl)) ?_
  simp only [Act.put, List.setIfInBounds_toArray, List.set_cons_zero, List.set_cons_succ]
  refine wpG_tk (some 8) (v := .bool false) rfl (.val (by rfl) (fun W hg => by have hq : ¬ ((y0 : Int) ≥ 65536) := (by omega); go_simp)) ?_
  simp only [Act.put, List.setIfInBounds_toArray, List.set_cons_zero, List.set_cons_succ]
  refine wpG_done (fun V10 hv11 => ?_)
  have GC12 := Lib.hid (GC9.out.trans hv11)
  clear hv11
  go_upto_region 7 with fail
  refine wpG_region ?_
  refine wpG_tk (some 13) (v := .int .u64 (y0 : Int)) rfl (.val (by rfl) (fun _ _ => rfl)) ?_
  simp only [Act.put, List.setIfInBounds_toArray, List.set_cons_zero, List.set_cons_succ]
  refine wpG_tk (some 14) (v := .bool false) rfl (.val (by rfl) (fun W hg => by have hq : ¬ ((y0 : Int) ≥ 256) := (by omega); go_simp)) ?_
  simp only [Act.put, List.setIfInBounds_toArray, List.set_cons_zero, List.set_cons_succ]
  refine wpG_done (fun V13 hv14 => ?_)
  have GC15 := Lib.hid (GC12.out.trans hv14)
  clear hv14
  go_upto_region 10 with fail
  have h256 : y0 < 256 := by omega
  have hl8 := len8_nat y0 h256
  have hm : (y0 : Int) % 256 = y0 := by omega
  have HL := Lib.hid hl8.1
  have hl := hl8.2
  clear hl8
  obtain ⟨lv, hlv⟩ : ∃ l, l = Lib.bitLen y0 := ⟨_, rfl⟩
  rw [← hlv] at hl
  have HV := Lib.hid hlv
  clear hlv
  refine wpG_region ?_
  refine wpG_tk (some 19) (v := .int .i64 32) rfl (.val (by rfl) (fun _ _ => rfl)) ?_
  simp only [Act.put, List.setIfInBounds_toArray, List.set_cons_zero, List.set_cons_succ]
  refine wpG_tk (some 20) (v := .int .u64 (y0 : Int)) rfl (.val (by rfl) (fun _ _ => rfl)) ?_
  simp only [Act.put, List.setIfInBounds_toArray, List.set_cons_zero, List.set_cons_succ]
  refine wpG_tk (some 21) (v := .int .u8 (y0 : Int)) rfl (.val (by rfl) (fun W hg => by go_simp; exact wrap_u8 _ h256)) ?_
  simp only [Act.put, List.setIfInBounds_toArray, List.set_cons_zero, List.set_cons_succ]
  refine wpG_tk (some 22) (v := .int .u8 (lv : Int)) rfl (.val (by rfl) (fun W hg => by rw [HV.out]; go_simp; rw [dif_pos (show y0 < Lib.len8tab.size by rw [Lib.len8tab_size]; omega)]; simp only [tab_at _ h256]; go_simp)) ?_
  simp only [Act.put, List.setIfInBounds_toArray, List.set_cons_zero, List.set_cons_succ]
  refine wpG_tk (some 23) (v := .int .i64 (lv : Int)) rfl (.val (by rfl) (fun W hg => by go_simp; exact wrap_nat _ (by omega))) ?_
  simp only [Act.put, List.setIfInBounds_toArray, List.set_cons_zero, List.set_cons_succ]
  refine wpG_tk (some 24) (v := .int .i64 (32 + (lv : Int))) rfl (.val (by rfl) (fun W hg => by (first | (go_simp; done) | (go_simp; rw [IntWalk.i64_in _ (by omega)])))) ?_
  simp only [Act.put, List.setIfInBounds_toArray, List.set_cons_zero, List.set_cons_succ]
  refine wpG_tk (some 2) (v := .int .i64 (32 + (lv : Int))) rfl (.val (by rfl) (fun _ _ => rfl)) ?_
  simp only [Act.put, List.setIfInBounds_toArray, List.set_cons_zero, List.set_cons_succ]
  refine wpG_done (fun V16 hv17 => ?_)
  have GC18 := Lib.hid (GC15.out.trans hv17)
  clear hv17
  go_wp2_with fail
  go_ret
  exact ⟨ret_int (by have e0 := Lib.bitLen_shift32 x (by omega) (by omega); rw [← HY0.out] at e0; have e := HV.out; omega), Gr.to G0.out GC18.out⟩
set_option maxRecDepth 1000000 in
set_option maxHeartbeats 4000000 in
theorem len64_f (x : Nat) (w : World) (h : 1099511627776 ≤ x) (h2 : x < 4398046511104) :
    Calls Try.prog 50 #[.int .u64 (x : Int)] w fun e w' => e = .returned (.int .i64 (Lib.bitLen x : Int)) ∧ Below w.heap.size w w' := by
  have G0 := Lib.hid (Below.refl w.heap.size w)
  go_enter Try.func50, Try.ntmps50
  go_upto_region 1 with fail
  refine wpG_region ?_
  refine wpG_tk (some 3) (v := .int .u64 (x : Int)) rfl (.val (by rfl) (fun _ _ => rfl)) ?_
  simp only [Act.put, List.setIfInBounds_toArray, List.set_cons_zero, List.set_cons_succ]
  refine wpG_tk (some 4) (v := .bool true) rfl (.val (by rfl) (fun W hg => by have hq : ((x : Int) ≥ 4294967296) := (by omega); go_simp)) ?_
  simp only [Act.put, List.setIfInBounds_toArray, List.set_cons_zero, List.set_cons_succ]
  refine wpG_done (fun V1 hv2 => ?_)
  have GC3 := Lib.hid hv2
  clear hv2
  obtain ⟨y0, hy0⟩ : ∃ y, y = x / 4294967296 := ⟨_, rfl⟩
  have hu : (x : Int) / 4294967296 = y0 := by omega
  have hc : y0 * 4294967296 ≤ x ∧ x < y0 * 4294967296 + 4294967296 := by omega
  have HY0 := Lib.hid hy0
  have HU := Lib.hid hu
  clear hy0 hu
  go_upto_region 2 with fail
  refine wpG_region ?_
  refine wpG_tk (some 5) (v := .int .u64 (x : Int)) rfl (.val (by rfl) (fun _ _ => rfl)) ?_
  simp only [Act.put, List.setIfInBounds_toArray, List.set_cons_zero, List.set_cons_succ]
  refine wpG_tk (some 6) (v := .int .u64 (y0 : Int)) rfl (.val (by rfl) (fun W hg => by go_simp; exact HU.out)) ?_
  simp only [Act.put, List.setIfInBounds_toArray, List.set_cons_zero, List.set_cons_succ]
  refine wpG_tk (some 0) (v := .int .u64 (y0 : Int)) rfl (.val (by rfl) (fun _ _ => rfl)) ?_
  simp only [Act.put, List.setIfInBounds_toArray, List.set_cons_zero]
  refine wpG_done (fun V4 hv5 => ?_)
  have GC6 := Lib.hid (GC3.out.trans hv5)
  clear hv5
  go_upto_region 3 with fail
  refine wpG_region ?_
  refine wpG_tk (some 2) (v := .int .i64 32) rfl (.val (by rfl) (fun _ _ => rfl)) ?_
  simp only [Act.put, List.setIfInBounds_toArray, List.set_cons_zero, List.set_cons_succ]
  refine wpG_done (fun V7 hv8 => ?_)
  have GC9 := Lib.hid (GC6.out.trans hv8)
  clear hv8
  go_upto_region 4 with fail
  refine wpG_region ?_
  refine wpG_tk (some 7) (v := .int .u64 (y0 : Int)) rfl (.val (by rfl) (fun _ _ => rfl)) ?_
  simp only [Act.put, List.setIfInBounds_toArray, List.set_cons_zero, List.set_cons_succ]
  refine wpG_tk (some 8) (v := .bool false) rfl (.val (by rfl) (fun W hg => by have hq : ¬ ((y0 : Int) ≥ 65536) := (by omega); go_simp)) ?_
  simp only [Act.put, List.setIfInBounds_toArray, List.set_cons_zero, List.set_cons_succ]
  refine wpG_done (fun V10 hv11 => ?_)
  have GC12 := Lib.hid (GC9.out.trans hv11)
  clear hv11
  go_upto_region 7 with fail
  refine wpG_region ?_
  refine wpG_tk (some 13) (v := .int .u64 (y0 : Int)) rfl (.val (by rfl) (fun _ _ => rfl)) ?_
  simp only [Act.put, List.setIfInBounds_toArray, List.set_cons_zero, List.set_cons_succ]
  refine wpG_tk (some 14) (v := .bool true) rfl (.val (by rfl) (fun W hg => by have hq : ((y0 : Int) ≥ 256) := (by omega); go_simp)) ?_
  simp only [Act.put, List.setIfInBounds_toArray, List.set_cons_zero, List.set_cons_succ]
  refine wpG_done (fun V13 hv14 => ?_)
  have GC15 := Lib.hid (GC12.out.trans hv14)
  clear hv14
  obtain ⟨y2, hy2⟩ : ∃ y, y = y0 / 256 := ⟨_, rfl⟩
  have hu : (y0 : Int) / 256 = y2 := by omega
  have hc : y2 * 256 ≤ y0 ∧ y0 < y2 * 256 + 256 := by omega
  have HY2 := Lib.hid hy2
  have HU := Lib.hid hu
  clear hy2 hu
  go_upto_region 8 with fail
  refine wpG_region ?_
  refine wpG_tk (some 15) (v := .int .u64 (y0 : Int)) rfl (.val (by rfl) (fun _ _ => rfl)) ?_
  simp only [Act.put, List.setIfInBounds_toArray, List.set_cons_zero, List.set_cons_succ]
  refine wpG_tk (some 16) (v := .int .u64 (y2 : Int)) rfl (.val (by rfl) (fun W hg => by go_simp; exact HU.out)) ?_
  simp only [Act.put, List.setIfInBounds_toArray, List.set_cons_zero, List.set_cons_succ]
  refine wpG_tk (some 0) (v := .int .u64 (y2 : Int)) rfl (.val (by rfl) (fun _ _ => rfl)) ?_
  simp only [Act.put, List.setIfInBounds_toArray, List.set_cons_zero]
  refine wpG_done (fun V16 hv17 => ?_)
  have GC18 := Lib.hid (GC15.out.trans hv17)
  clear hv17
  go_upto_region 9 with fail
  refine wpG_region ?_
  refine wpG_tk (some 17) (v := .int .i64 32) rfl (.val (by rfl) (fun _ _ => rfl)) ?_
  simp only [Act.put, List.setIfInBounds_toArray, List.set_cons_zero, List.set_cons_succ]
  refine wpG_tk (some 18) (v := .int .i64 40) rfl (.val (by rfl) (fun W hg => by go_simp <;> rfl)) ?_
  simp only [Act.put, List.setIfInBounds_toArray, List.set_cons_zero, List.set_cons_succ]
  refine wpG_tk (some 2) (v := .int .i64 40) rfl (.val (by rfl) (fun _ _ => rfl)) ?_
  simp only [Act.put, List.setIfInBounds_toArray, List.set_cons_zero, List.set_cons_succ]
  refine wpG_done (fun V19 hv20 => ?_)
  have GC21 := Lib.hid (GC18.out.trans hv20)
  clear hv20
  go_upto_region 10 with fail
  have h256 : y2 < 256 := by omega
  have hl8 := len8_nat y2 h256
  have hm : (y2 : Int) % 256 = y2 := by omega
  have HL := Lib.hid hl8.1
  have hl := hl8.2
  clear hl8
  obtain ⟨lv, hlv⟩ : ∃ l, l = Lib.bitLen y2 := ⟨_, rfl⟩
  rw [← hlv] at hl
  have HV := Lib.hid hlv
  clear hlv
  refine wpG_region ?_
  refine wpG_tk (some 19) (v := .int .i64 40) rfl (.val (by rfl) (fun _ _ => rfl)) ?_
  simp only [Act.put, List.setIfInBounds_toArray, List.set_cons_zero, List.set_cons_succ]
  refine wpG_tk (some 20) (v := .int .u64 (y2 : Int)) rfl (.val (by rfl) (fun _ _ => rfl)) ?_
  simp only [Act.put, List.setIfInBounds_toArray, List.set_cons_zero, List.set_cons_succ]
  refine wpG_tk (some 21) (v := .int .u8 (y2 : Int)) rfl (.val (by rfl) (fun W hg => by go_simp; exact wrap_u8 _ h256)) ?_
  simp only [Act.put, List.setIfInBounds_toArray, List.set_cons_zero, List.set_cons_succ]
  refine wpG_tk (some 22) (v := .int .u8 (lv : Int)) rfl (.val (by rfl) (fun W hg => by rw [HV.out]; go_simp; rw [dif_pos (show y2 < Lib.len8tab.size by rw [Lib.len8tab_size]; omega)]; simp only [tab_at _ h256]; go_simp)) ?_
  simp only [Act.put, List.setIfInBounds_toArray, List.set_cons_zero, List.set_cons_succ]
  refine wpG_tk (some 23) (v := .int .i64 (lv : Int)) rfl (.val (by rfl) (fun W hg => by go_simp; exact wrap_nat _ (by omega))) ?_
  simp only [Act.put, List.setIfInBounds_toArray, List.set_cons_zero, List.set_cons_succ]
  refine wpG_tk (some 24) (v := .int .i64 (40 + (lv : Int))) rfl (.val (by rfl) (fun W hg => by (first | (go_simp; done) | (go_simp; rw [IntWalk.i64_in _ (by omega)])))) ?_
  simp only [Act.put, List.setIfInBounds_toArray, List.set_cons_zero, List.set_cons_succ]
  refine wpG_tk (some 2) (v := .int .i64 (40 + (lv : Int))) rfl (.val (by rfl) (fun _ _ => rfl)) ?_
  simp only [Act.put, List.setIfInBounds_toArray, List.set_cons_zero, List.set_cons_succ]
  refine wpG_done (fun V22 hv23 => ?_)
  have GC24 := Lib.hid (GC21.out.trans hv23)
  clear hv23
  go_wp2_with fail
  go_ret
  exact ⟨ret_int (by have e0 := Lib.bitLen_shift32 x (by omega) (by omega); rw [← HY0.out] at e0; have e2 := Lib.bitLen_shift8 y0 (by omega) (by omega); rw [← HY2.out] at e2; have e := HV.out; omega), Gr.to G0.out GC24.out⟩
set_option maxRecDepth 1000000 in
set_option maxHeartbeats 4000000 in
theorem len64_any (x : Nat) (w : World) (h : x < 4398046511104) :
    Calls Try.prog 50 #[.int .u64 (x : Int)] w fun e w' => e = .returned (.int .i64 (Lib.bitLen x : Int)) ∧ Below w.heap.size w w' := by
  by_cases h1 : x < 256
  · exact len64_a x w h1
  by_cases h2 : x < 65536
  · exact len64_b x w (by omega) h2
  by_cases h3 : x < 16777216
  · exact len64_c x w (by omega) h3
  by_cases h4 : x < 4294967296
  · exact len64_d x w (by omega) h4
  by_cases h5 : x < 1099511627776
  · exact len64_e x w (by omega) h5
  exact len64_f x w (by omega) h
set_option maxRecDepth 1000000 in
set_option maxHeartbeats 4000000 in
theorem len_any (x : Nat) (w : World) (h : x < 4398046511104) :
    Calls Try.prog 36 #[.int .u64 (x : Int)] w fun e w' => e = .returned (.int .i64 (Lib.bitLen x : Int)) ∧ Below w.heap.size w w' := by
  have G0 := Lib.hid (Below.refl w.heap.size w)
  go_enter Try.func36, Try.ntmps36
  go_upto_region 2 with fail
  refine wpG_region ?_
  refine wpG_tk (some 6) (v := .int .u64 (x : Int)) rfl (.val (by rfl) (fun _ _ => rfl)) ?_
  simp only [Act.put, List.setIfInBounds_toArray, List.set_cons_zero, List.set_cons_succ]
  refine wpG_tk (some 7) (v := .int .i64 (Lib.bitLen x : Int)) rfl (.call (f := 50) (args := #[.int .u64 (x : Int)]) (by rfl) (fun W => by go_simp) (fun W hg => len64_any x W h)) ?_
  simp only [Act.put, List.setIfInBounds_toArray, List.set_cons_zero, List.set_cons_succ]
  refine wpG_tk (some 2) (v := .int .i64 (Lib.bitLen x : Int)) rfl (.val (by rfl) (fun _ _ => rfl)) ?_
  simp only [Act.put, List.setIfInBounds_toArray, List.set_cons_zero, List.set_cons_succ]
  refine wpG_done (fun V1 hv2 => ?_)
  have GC3 := Lib.hid hv2
  clear hv2
  go_wp2_with fail
  go_ret
  exact ⟨rfl, Gr.to G0.out GC3.out⟩

end Go.Proofs.Ytmjjkloeipoefaa
