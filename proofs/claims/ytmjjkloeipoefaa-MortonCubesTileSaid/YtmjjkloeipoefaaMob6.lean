/-
  Contract of package morton: the closure of Cubes.
-/
import Derived.Test.YtmjjkloeipoefaaKqt
import Derived.Test.YtmjjkloeipoefaaMob4
import Derived.Handy
namespace Go.Proofs.Ytmjjkloeipoefaa
open Go.RowKit
set_option linter.unusedVariables false
set_option maxRecDepth 1000000 in
set_option maxHeartbeats 4000000 in
theorem cub_a (b1 b2 b3 b4 b5 b6 x y z L : Int) (l B n c qb ql qc : Nat) (A : Option Addr) (cl : List Mo.Cb) (w : World) (hL : L = (l : Int)) (hs : Mo.sits x y z l) (hB : B ≤ w.heap.size) (hne : (qb < B ∧ ql < B ∧ qc < B) ∧ qb ≠ ql ∧ qc ≠ ql) (hn : n = cl.length) (hn2 : n ≤ 4096) (hown : w.ownsRow B 27 4 (.slice A n c) n (ccs cl)) (hqb : Row qb [.int .i64 b1, .int .i64 b2, .int .i64 b3, .int .i64 b4, .int .i64 b5, .int .i64 b6] w) (hql : Row ql [.slice A n c] w) (hqc : Row qc [.func (.func 41) #[] #[.pointer (some ⟨qb, 0, none⟩), .pointer (some ⟨ql, 0, none⟩), .pointer (some ⟨qc, 0, none⟩)]] w) (wv : Bool) (hm : Mo.meets b1 b2 b3 b4 b5 b6 x y z l = false) (hw : Mo.within b1 b2 b3 b4 b5 b6 x y z l = wv) :
    Calls Try.prog 41 #[.agg #[.int .i64 x, .int .i64 y, .int .i64 z, .int .i64 L], .pointer (some ⟨qb, 0, none⟩), .pointer (some ⟨ql, 0, none⟩), .pointer (some ⟨qc, 0, none⟩)] w (CubP B (fun k => k = ql ∨ (Value.slice A n c).ownBlock = some k) ([]) cl w (fun v cl2 e w2 => e = .returned (.bool (decide (cl2.length ≤ 4096))) ∧ Row ql [v] w2)) := by
  have HM := Lib.hid hm
  have HW := Lib.hid hw
  have HL := Lib.hid hL
  have HS := Lib.hid hs
  have HN := Lib.hid hn
  have HO0 := Lib.hid hown
  clear hL hs hm hw hn hown
  obtain ⟨u, hu, r0, g0⟩ := rows1 w [.int .i64 x, .int .i64 y, .int .i64 z, .int .i64 L] 27
  have R0 := Lib.hid r0
  have RB := Lib.hid (hqb.below g0)
  have RQ := Lib.hid (hql.below g0)
  have RC := Lib.hid (hqc.below g0)
  clear hqb hql hqc
  have G0 := Lib.hid g0
  have HU := Lib.hid hu
  clear hu g0 r0
  go_enter Try.func41, Try.ntmps41
  go_upto_region 1 with fail
  rw [← HU.out]
  have HCH := Lib.hid (Chg.of_gr (S := (fun k => k = ql ∨ (Value.slice A n c).ownBlock = some k)) G0.out)
  have HOU := Lib.hid (own_gr HO0.out G0.out)
  have hsu : w.heap.size ≤ u.heap.size := G0.out.size
  refine wpG_region ?_
  refine @wpG_tk _ _ _ _ _ (some 10) (.agg #[.int .i64 x, .int .i64 y, .int .i64 z, .int .i64 L]) _ _ rfl (.load_mid (by rfl) 27 (.tmp 4) rfl (w.heap.size) 0 rfl [.int .i64 x, .int .i64 y, .int .i64 z, .int .i64 L] _ (fun W hg => (R0.out.below hg).range) Try.underlying27 rfl (by kernel_rfl)) ?_
  simp only [Act.put, List.setIfInBounds_toArray, List.set_cons_zero, List.set_cons_succ]
  refine @wpG_tk _ _ _ _ _ (some 11) (.agg #[.int .i64 b1, .int .i64 b2, .int .i64 b3, .int .i64 b4, .int .i64 b5, .int .i64 b6]) _ _ rfl (.load_mid (by rfl) 37 (.tmp 1) rfl (qb) 0 rfl [.int .i64 b1, .int .i64 b2, .int .i64 b3, .int .i64 b4, .int .i64 b5, .int .i64 b6] _ (fun W hg => (RB.out.below hg).range) Try.underlying37 rfl (by kernel_rfl)) ?_
  simp only [Act.put, List.setIfInBounds_toArray, List.set_cons_zero, List.set_cons_succ]
  refine @wpG_tk _ _ _ _ _ (some 12) (.tuple #[.bool false, .bool wv]) _ _ rfl (.call (f := 42) (args := #[.agg #[.int .i64 x, .int .i64 y, .int .i64 z, .int .i64 L], .agg #[.int .i64 b1, .int .i64 b2, .int .i64 b3, .int .i64 b4, .int .i64 b5, .int .i64 b6]]) (by rfl) (fun W => by go_simp) (fun W hg => overlap_K b1 b2 b3 b4 b5 b6 x y z L l false wv W HL.out HS.out HM.out HW.out)) ?_
  simp only [Act.put, List.setIfInBounds_toArray, List.set_cons_zero, List.set_cons_succ]
  refine @wpG_tk _ _ _ _ _ (some 9) (.tuple #[.bool false, .bool wv]) _ _ rfl (.val (by rfl) (fun _ _ => rfl)) ?_
  simp only [Act.put, List.setIfInBounds_toArray, List.set_cons_zero, List.set_cons_succ]
  refine @wpG_tk _ _ _ _ _ (some 13) (.bool false) _ _ rfl (.val (by rfl) (fun W hg => by go_simp)) ?_
  simp only [Act.put, List.setIfInBounds_toArray, List.set_cons_zero, List.set_cons_succ]
  refine @wpG_tk _ _ _ _ _ (some 14) (.bool wv) _ _ rfl (.val (by rfl) (fun W hg => by go_simp)) ?_
  simp only [Act.put, List.setIfInBounds_toArray, List.set_cons_zero, List.set_cons_succ]
  refine @wpG_tk _ _ _ _ _ (some 6) (.bool false) _ _ rfl (.val (by rfl) (fun _ _ => rfl)) ?_
  simp only [Act.put, List.setIfInBounds_toArray, List.set_cons_zero, List.set_cons_succ]
  refine @wpG_tk _ _ _ _ _ (some 7) (.bool wv) _ _ rfl (.val (by rfl) (fun _ _ => rfl)) ?_
  simp only [Act.put, List.setIfInBounds_toArray, List.set_cons_zero, List.set_cons_succ]
  refine wpG_done (fun V1 hv2 => ?_)
  have GC3 := Lib.hid hv2
  clear hv2
  go_upto_region 2 with fail
  refine wpG_region ?_
  refine @wpG_tk _ _ _ _ _ (some 16) (.bool false) _ _ rfl (.val (by rfl) (fun _ _ => rfl)) ?_
  simp only [Act.put, List.setIfInBounds_toArray, List.set_cons_zero, List.set_cons_succ]
  refine @wpG_tk _ _ _ _ _ (some 17) (.bool true) _ _ rfl (.val (by rfl) (fun W hg => by go_simp)) ?_
  simp only [Act.put, List.setIfInBounds_toArray, List.set_cons_zero, List.set_cons_succ]
  refine @wpG_tk _ _ _ _ _ (some 15) (.bool true) _ _ rfl (.val (by rfl) (fun _ _ => rfl)) ?_
  simp only [Act.put, List.setIfInBounds_toArray, List.set_cons_zero, List.set_cons_succ]
  refine wpG_done (fun V4 hv5 => ?_)
  have GC6 := Lib.hid (GC3.out.trans hv5)
  clear hv5
  go_upto_region 3 with fail
  refine wpG_region ?_
  refine @wpG_tk _ _ _ _ _ (some 5) (.bool true) _ _ rfl (.val (by rfl) (fun _ _ => rfl)) ?_
  simp only [Act.put, List.setIfInBounds_toArray, List.set_cons_zero, List.set_cons_succ]
  refine wpG_done (fun V7 hv8 => ?_)
  have GC9 := Lib.hid (GC6.out.trans hv8)
  clear hv8
  go_wp2_with fail
  go_ret
  exact ⟨_, _, _, cl, by rw [List.append_nil, Mo.cut_small (by rw [← HN.out]; omega)], HN.out, ⟨ret_bool (by rw [← HN.out, decide_eq_true hn2]), RQ.out.below GC9.out⟩, own_gr HOU.out GC9.out, HCH.out.gr GC9.out, fun k hk => .inl (.inr hk)⟩
set_option maxRecDepth 1000000 in
set_option maxHeartbeats 4000000 in
theorem cub_c (b1 b2 b3 b4 b5 b6 x y z L : Int) (l B n c qb ql qc : Nat) (A : Option Addr) (cl : List Mo.Cb) (w : World) (hL : L = (l : Int)) (hs : Mo.sits x y z l) (hB : B ≤ w.heap.size) (hne : (qb < B ∧ ql < B ∧ qc < B) ∧ qb ≠ ql ∧ qc ≠ ql) (hn : n = cl.length) (hn2 : n ≤ 4096) (hown : w.ownsRow B 27 4 (.slice A n c) n (ccs cl)) (hqb : Row qb [.int .i64 b1, .int .i64 b2, .int .i64 b3, .int .i64 b4, .int .i64 b5, .int .i64 b6] w) (hql : Row ql [.slice A n c] w) (hqc : Row qc [.func (.func 41) #[] #[.pointer (some ⟨qb, 0, none⟩), .pointer (some ⟨ql, 0, none⟩), .pointer (some ⟨qc, 0, none⟩)]] w) (hm : Mo.meets b1 b2 b3 b4 b5 b6 x y z l = true) (hw : Mo.within b1 b2 b3 b4 b5 b6 x y z l = true) :
    Calls Try.prog 41 #[.agg #[.int .i64 x, .int .i64 y, .int .i64 z, .int .i64 L], .pointer (some ⟨qb, 0, none⟩), .pointer (some ⟨ql, 0, none⟩), .pointer (some ⟨qc, 0, none⟩)] w (CubP B (fun k => k = ql ∨ (Value.slice A n c).ownBlock = some k) ([(x, y, z, L)]) cl w (fun v cl2 e w2 => e = .returned (.bool (decide (cl2.length ≤ 4096))) ∧ Row ql [v] w2)) := by
  have HM := Lib.hid hm
  have HW := Lib.hid hw
  have HL := Lib.hid hL
  have HS := Lib.hid hs
  have HN := Lib.hid hn
  have HO0 := Lib.hid hown
  clear hL hs hm hw hn hown
  obtain ⟨u, hu, r0, g0⟩ := rows1 w [.int .i64 x, .int .i64 y, .int .i64 z, .int .i64 L] 27
  have R0 := Lib.hid r0
  have RB := Lib.hid (hqb.below g0)
  have RQ := Lib.hid (hql.below g0)
  have RC := Lib.hid (hqc.below g0)
  clear hqb hql hqc
  have G0 := Lib.hid g0
  have HU := Lib.hid hu
  clear hu g0 r0
  go_enter Try.func41, Try.ntmps41
  go_upto_region 1 with fail
  rw [← HU.out]
  have HCH := Lib.hid (Chg.of_gr (S := (fun k => k = ql ∨ (Value.slice A n c).ownBlock = some k)) G0.out)
  have HOU := Lib.hid (own_gr HO0.out G0.out)
  have hsu : w.heap.size ≤ u.heap.size := G0.out.size
  refine wpG_region ?_
  refine @wpG_tk _ _ _ _ _ (some 10) (.agg #[.int .i64 x, .int .i64 y, .int .i64 z, .int .i64 L]) _ _ rfl (.load_mid (by rfl) 27 (.tmp 4) rfl (w.heap.size) 0 rfl [.int .i64 x, .int .i64 y, .int .i64 z, .int .i64 L] _ (fun W hg => (R0.out.below hg).range) Try.underlying27 rfl (by kernel_rfl)) ?_
  simp only [Act.put, List.setIfInBounds_toArray, List.set_cons_zero, List.set_cons_succ]
  refine @wpG_tk _ _ _ _ _ (some 11) (.agg #[.int .i64 b1, .int .i64 b2, .int .i64 b3, .int .i64 b4, .int .i64 b5, .int .i64 b6]) _ _ rfl (.load_mid (by rfl) 37 (.tmp 1) rfl (qb) 0 rfl [.int .i64 b1, .int .i64 b2, .int .i64 b3, .int .i64 b4, .int .i64 b5, .int .i64 b6] _ (fun W hg => (RB.out.below hg).range) Try.underlying37 rfl (by kernel_rfl)) ?_
  simp only [Act.put, List.setIfInBounds_toArray, List.set_cons_zero, List.set_cons_succ]
  refine @wpG_tk _ _ _ _ _ (some 12) (.tuple #[.bool true, .bool true]) _ _ rfl (.call (f := 42) (args := #[.agg #[.int .i64 x, .int .i64 y, .int .i64 z, .int .i64 L], .agg #[.int .i64 b1, .int .i64 b2, .int .i64 b3, .int .i64 b4, .int .i64 b5, .int .i64 b6]]) (by rfl) (fun W => by go_simp) (fun W hg => overlap_K b1 b2 b3 b4 b5 b6 x y z L l true true W HL.out HS.out HM.out HW.out)) ?_
  simp only [Act.put, List.setIfInBounds_toArray, List.set_cons_zero, List.set_cons_succ]
  refine @wpG_tk _ _ _ _ _ (some 9) (.tuple #[.bool true, .bool true]) _ _ rfl (.val (by rfl) (fun _ _ => rfl)) ?_
  simp only [Act.put, List.setIfInBounds_toArray, List.set_cons_zero, List.set_cons_succ]
  refine @wpG_tk _ _ _ _ _ (some 13) (.bool true) _ _ rfl (.val (by rfl) (fun W hg => by go_simp)) ?_
  simp only [Act.put, List.setIfInBounds_toArray, List.set_cons_zero, List.set_cons_succ]
  refine @wpG_tk _ _ _ _ _ (some 14) (.bool true) _ _ rfl (.val (by rfl) (fun W hg => by go_simp)) ?_
  simp only [Act.put, List.setIfInBounds_toArray, List.set_cons_zero, List.set_cons_succ]
  refine @wpG_tk _ _ _ _ _ (some 6) (.bool true) _ _ rfl (.val (by rfl) (fun _ _ => rfl)) ?_
  simp only [Act.put, List.setIfInBounds_toArray, List.set_cons_zero, List.set_cons_succ]
  refine @wpG_tk _ _ _ _ _ (some 7) (.bool true) _ _ rfl (.val (by rfl) (fun _ _ => rfl)) ?_
  simp only [Act.put, List.setIfInBounds_toArray, List.set_cons_zero, List.set_cons_succ]
  refine wpG_done (fun V1 hv2 => ?_)
  have GC3 := Lib.hid hv2
  clear hv2
  go_upto_region 2 with fail
  refine wpG_region ?_
  refine @wpG_tk _ _ _ _ _ (some 16) (.bool true) _ _ rfl (.val (by rfl) (fun _ _ => rfl)) ?_
  simp only [Act.put, List.setIfInBounds_toArray, List.set_cons_zero, List.set_cons_succ]
  refine @wpG_tk _ _ _ _ _ (some 17) (.bool false) _ _ rfl (.val (by rfl) (fun W hg => by go_simp)) ?_
  simp only [Act.put, List.setIfInBounds_toArray, List.set_cons_zero, List.set_cons_succ]
  refine @wpG_tk _ _ _ _ _ (some 15) (.bool false) _ _ rfl (.val (by rfl) (fun _ _ => rfl)) ?_
  simp only [Act.put, List.setIfInBounds_toArray, List.set_cons_zero, List.set_cons_succ]
  refine wpG_done (fun V4 hv5 => ?_)
  have GC6 := Lib.hid (GC3.out.trans hv5)
  clear hv5
  go_upto_region 4 with fail
  refine wpG_region ?_
  refine @wpG_tk _ _ _ _ _ (some 19) (.bool true) _ _ rfl (.val (by rfl) (fun _ _ => rfl)) ?_
  simp only [Act.put, List.setIfInBounds_toArray, List.set_cons_zero, List.set_cons_succ]
  refine @wpG_tk _ _ _ _ _ (some 18) (.bool true) _ _ rfl (.val (by rfl) (fun _ _ => rfl)) ?_
  simp only [Act.put, List.setIfInBounds_toArray, List.set_cons_zero, List.set_cons_succ]
  refine wpG_done (fun V7 hv8 => ?_)
  have GC9 := Lib.hid (GC6.out.trans hv8)
  clear hv8
  go_upto_region 5 with fail
  obtain ⟨i0, hi0, hz0, hz1, hz2⟩ := info_parts infoCube
  refine wpG_region ?_
  refine @wpG_tk _ _ _ _ _ (some 20) (.slice A n c) _ _ rfl (.val (by rfl) (fun W hg => by have c := (RQ.out.below (GC9.out.trans hg) 0 _ rfl).1; go_simp)) ?_
  simp only [Act.put, List.setIfInBounds_toArray, List.set_cons_zero, List.set_cons_succ]
  refine @wpG_tk _ _ _ _ _ (some 21) (.agg #[.int .i64 x, .int .i64 y, .int .i64 z, .int .i64 L]) _ _ rfl (.load_mid (by rfl) 27 (.tmp 4) rfl (w.heap.size) 0 rfl [.int .i64 x, .int .i64 y, .int .i64 z, .int .i64 L] _ (fun W hg => (R0.out.below (GC9.out.trans hg)).range) Try.underlying27 rfl (by kernel_rfl)) ?_
  simp only [Act.put, List.setIfInBounds_toArray, List.set_cons_zero, List.set_cons_succ]
  refine wpG_val (some 22) rfl (by rfl) (fun W10 hg11 => ⟨.slice (some ⟨W10.heap.size, 0, none⟩) 1 1, W10.alloc (.cells #[.int .i64 x, .int .i64 y, .int .i64 z, .int .i64 L] 27), by (go_simp <;> rfl), ?_⟩)
  simp only [Act.put, List.setIfInBounds_toArray, List.set_cons_zero, List.set_cons_succ]
  obtain ⟨U12, hu, rn, gn⟩ : ∃ zw, zw = W10.alloc (.cells #[.int .i64 x, .int .i64 y, .int .i64 z, .int .i64 L] 27) ∧ Row W10.heap.size [.int .i64 x, .int .i64 y, .int .i64 z, .int .i64 L] zw ∧ Gr W10 zw := ⟨_, rfl, Row.newl W10 [.int .i64 x, .int .i64 y, .int .i64 z, .int .i64 L] 27, Gr.al _ _⟩
  rw [← hu]
  have RN13 := Lib.hid rn
  have GB14 := Lib.hid (Gr.trans (GC9.out.trans hg11) gn)
  clear hu rn gn hg11
  refine wpG_app _ (some 23) rfl rfl (.tmp 20) (.tmp 22) 38 38 rfl B 27 i0 _ 4 32 Try.underlying38 hi0 hz0 hz1 hz2 rfl _ _ _ (own_gr HOU.out (GB14.out.trans (Gr.refl _))) _ 1 [.int .i64 x, .int .i64 y, .int .i64 z, .int .i64 L] (fun w2 h2 => src_new Try.underlying38 [.int .i64 x, .int .i64 y, .int .i64 z, .int .i64 L] 4 rfl RN13.out (by intro u hu; simp at hu; rcases hu with rfl | rfl | rfl | rfl <;> rfl) w2 h2 (by simp)) rfl rfl (by simp only [maxLen]; omega) (by omega) (Nat.le_trans (Nat.le_trans hB hsu) (GB14.out.trans (Gr.refl _)).size) (fun v21 W15 W16 hg17 ow20 gb18 wh19 => ?_)
  have R22 := Lib.hid ((Chg.of_grown gb18).row (R0.out.below ((GB14.out.trans (Gr.refl _)).trans hg17)) (fun e => by have := HO0.out.lt _ e; omega))
  have R23 := Lib.hid ((Chg.of_grown gb18).row (RB.out.below ((GB14.out.trans (Gr.refl _)).trans hg17)) (fun e => by have := HO0.out.lt _ e; omega))
  have R24 := Lib.hid ((Chg.of_grown gb18).row (RQ.out.below ((GB14.out.trans (Gr.refl _)).trans hg17)) (fun e => by have := HO0.out.lt _ e; omega))
  have R25 := Lib.hid ((Chg.of_grown gb18).row (RC.out.below ((GB14.out.trans (Gr.refl _)).trans hg17)) (fun e => by have := HO0.out.lt _ e; omega))
  have HC26 := Lib.hid (HCH.out.app ((GB14.out.trans (Gr.refl _)).trans hg17) gb18 (fun k hk => .inl (.inr hk)))
  have hszW15 : u.heap.size ≤ W15.heap.size := ((GB14.out.trans (Gr.refl _)).trans hg17).size
  obtain ⟨A1, k1, rfl, hle1, hcap1, _⟩ := own_shape ow20
  have OW27 := Lib.hid ow20
  have HWH := Lib.hid wh19
  clear ow20 wh19 gb18
  simp only [Act.put, List.setIfInBounds_toArray, List.set_cons_zero, List.set_cons_succ]
  refine wpG_store (none) rfl (by rfl) (fun W28 hg29 => ⟨W28.setCell ⟨ql, 0, none⟩ (.slice A1 (n + 1) k1), by have c := (R24.out.below hg29).cellx 0 _ rfl; have c2 := (R24.out.below hg29).softx 0 _ rfl; go_simp, ?_⟩)
  simp only [Act.put]
  refine wpG_done (fun V30 hv31 => ?_)
  have R33 := Lib.hid (((R22.out.below hg29).far (b := ql) (by omega) 0 [.slice A1 (n + 1) k1]).below hv31)
  have R34 := Lib.hid (((R23.out.below hg29).far (b := ql) (by omega) 0 [.slice A1 (n + 1) k1]).below hv31)
  have R35 := Lib.hid (((R25.out.below hg29).far (b := ql) (by omega) 0 [.slice A1 (n + 1) k1]).below hv31)
  have R36 : Hid (Row ql [.slice A1 (n + 1) k1] V30) := Lib.hid (((R24.out.below hg29).set 0 (.slice A1 (n + 1) k1) (by simp)).below hv31)
  have G32 := Lib.hid (HC26.out.put hg29 (.inr (.inl rfl)) hv31)
  have OW37 := Lib.hid (own_gr ((Chg.setCell W28 ql 0 (.slice A1 (n + 1) k1)).own (own_gr OW27.out hg29) (fun k hk e => by have := (OW27.out.lt k hk).1; omega)) hv31)
  clear hg29 hv31
  go_upto_region 6 with fail
  refine wpG_region ?_
  refine @wpG_tk _ _ _ _ _ (some 24) (.slice A1 (n + 1) k1) _ _ rfl (.val (by rfl) (fun W hg => by have c := (R36.out.below hg 0 _ rfl).1; go_simp)) ?_
  simp only [Act.put, List.setIfInBounds_toArray, List.set_cons_zero, List.set_cons_succ]
  refine @wpG_tk _ _ _ _ _ (some 25) (.int .i64 ((n + 1 : Nat) : Int)) _ _ rfl (.val (by rfl) (fun W hg => by (go_simp <;> (repeat' split) <;> omega))) ?_
  simp only [Act.put, List.setIfInBounds_toArray, List.set_cons_zero, List.set_cons_succ]
  refine @wpG_tk _ _ _ _ _ (some 26) (.bool (decide (n + 1 ≤ 4096))) _ _ rfl (.val (by rfl) (fun W hg => by first | (go_simp; done) | (go_simp; first | rfl | omega | (simp; done)))) ?_
  simp only [Act.put, List.setIfInBounds_toArray, List.set_cons_zero, List.set_cons_succ]
  obtain ⟨c38, hc38⟩ : ∃ b, b = (decide (n + 1 ≤ 4096)) := ⟨_, rfl⟩
  rw [← hc38]
  have Hc38 := Lib.hid hc38
  clear hc38
  refine @wpG_tk _ _ _ _ _ (some 5) (.bool c38) _ _ rfl (.val (by rfl) (fun _ _ => rfl)) ?_
  simp only [Act.put, List.setIfInBounds_toArray, List.set_cons_zero, List.set_cons_succ]
  refine wpG_done (fun V39 hv40 => ?_)
  have GC41 := Lib.hid hv40
  clear hv40
  go_wp2_with fail
  go_ret
  exact ⟨_, _, _, cl ++ [(x, y, z, L)], (Mo.cut_small (by rw [List.length_append, ← HN.out]; simp only [List.length_cons, List.length_nil]; omega)).symm, by rw [List.length_append, ← HN.out]; rfl, ⟨ret_bool (by rw [Hc38.out, List.length_append, ← HN.out]; rfl), R36.out.below GC41.out⟩, own_gr (by rw [ccs_append, ccs_one]; exact OW37.out) GC41.out, G32.out.gr GC41.out, fun k hk => by rcases HWH.out with h1 | h1; exact .inl (.inr (h1 ▸ hk)); right; rw [h1] at hk; injection hk with hk; omega⟩
set_option maxRecDepth 1000000 in
set_option maxHeartbeats 4000000 in
theorem cub_d (b1 b2 b3 b4 b5 b6 x y z L : Int) (l B n c qb ql qc : Nat) (A : Option Addr) (cl : List Mo.Cb) (w : World) (hL : L = (l : Int) + 1) (hs : Mo.sits x y z (l + 1)) (hB : B ≤ w.heap.size) (hne : (qb < B ∧ ql < B ∧ qc < B) ∧ qb ≠ ql ∧ qc ≠ ql) (hn : n = cl.length) (hn2 : n ≤ 4096) (hown : w.ownsRow B 27 4 (.slice A n c) n (ccs cl)) (hqb : Row qb [.int .i64 b1, .int .i64 b2, .int .i64 b3, .int .i64 b4, .int .i64 b5, .int .i64 b6] w) (hql : Row ql [.slice A n c] w) (hqc : Row qc [.func (.func 41) #[] #[.pointer (some ⟨qb, 0, none⟩), .pointer (some ⟨ql, 0, none⟩), .pointer (some ⟨qc, 0, none⟩)]] w) (hm : Mo.meets b1 b2 b3 b4 b5 b6 x y z (l + 1) = true) (hw : Mo.within b1 b2 b3 b4 b5 b6 x y z (l + 1) = false)
    (ih : ∀ (x y z L : Int) (n c : Nat) (A : Option Addr) (cl : List Mo.Cb) (w : World), L = (l : Int) → Mo.sits x y z l → B ≤ w.heap.size → n = cl.length → n ≤ 4096 → w.ownsRow B 27 4 (.slice A n c) n (ccs cl) → Row qb [.int .i64 b1, .int .i64 b2, .int .i64 b3, .int .i64 b4, .int .i64 b5, .int .i64 b6] w → Row ql [.slice A n c] w → Row qc [.func (.func 41) #[] #[.pointer (some ⟨qb, 0, none⟩), .pointer (some ⟨ql, 0, none⟩), .pointer (some ⟨qc, 0, none⟩)]] w → Calls Try.prog 41 #[.agg #[.int .i64 x, .int .i64 y, .int .i64 z, .int .i64 L], .pointer (some ⟨qb, 0, none⟩), .pointer (some ⟨ql, 0, none⟩), .pointer (some ⟨qc, 0, none⟩)] w (CubP B (fun k => k = ql ∨ (Value.slice A n c).ownBlock = some k) (Mo.cub b1 b2 b3 b4 b5 b6 l x y z) cl w (fun v cl2 e w2 => e = .returned (.bool (decide (cl2.length ≤ 4096))) ∧ Row ql [v] w2))) :
    Calls Try.prog 41 #[.agg #[.int .i64 x, .int .i64 y, .int .i64 z, .int .i64 L], .pointer (some ⟨qb, 0, none⟩), .pointer (some ⟨ql, 0, none⟩), .pointer (some ⟨qc, 0, none⟩)] w (CubP B (fun k => k = ql ∨ (Value.slice A n c).ownBlock = some k) (Mo.ffl (fun o => Mo.cub b1 b2 b3 b4 b5 b6 l (x + Mo.cx 0 o l) (y + Mo.cx 1 o l) (z + Mo.cx 2 o l)) 8 0) cl w (fun v cl2 e w2 => e = .returned (.bool (decide (cl2.length ≤ 4096))) ∧ Row ql [v] w2)) := by
  have HM := Lib.hid hm
  have HW := Lib.hid hw
  have HL := Lib.hid hL
  have HS := Lib.hid hs
  have HN := Lib.hid hn
  have HO0 := Lib.hid hown
  clear hL hs hm hw hn hown
  obtain ⟨u, hu, r0, g0⟩ := rows1 w [.int .i64 x, .int .i64 y, .int .i64 z, .int .i64 L] 27
  have R0 := Lib.hid r0
  have RB := Lib.hid (hqb.below g0)
  have RQ := Lib.hid (hql.below g0)
  have RC := Lib.hid (hqc.below g0)
  clear hqb hql hqc
  have G0 := Lib.hid g0
  have HU := Lib.hid hu
  clear hu g0 r0
  go_enter Try.func41, Try.ntmps41
  go_upto_region 1 with fail
  rw [← HU.out]
  have HCH := Lib.hid (Chg.of_gr (S := (fun k => k = ql ∨ (Value.slice A n c).ownBlock = some k)) G0.out)
  have HOU := Lib.hid (own_gr HO0.out G0.out)
  have hsu : w.heap.size ≤ u.heap.size := G0.out.size
  refine wpG_region ?_
  refine @wpG_tk _ _ _ _ _ (some 10) (.agg #[.int .i64 x, .int .i64 y, .int .i64 z, .int .i64 L]) _ _ rfl (.load_mid (by rfl) 27 (.tmp 4) rfl (w.heap.size) 0 rfl [.int .i64 x, .int .i64 y, .int .i64 z, .int .i64 L] _ (fun W hg => (R0.out.below hg).range) Try.underlying27 rfl (by kernel_rfl)) ?_
  simp only [Act.put, List.setIfInBounds_toArray, List.set_cons_zero, List.set_cons_succ]
  refine @wpG_tk _ _ _ _ _ (some 11) (.agg #[.int .i64 b1, .int .i64 b2, .int .i64 b3, .int .i64 b4, .int .i64 b5, .int .i64 b6]) _ _ rfl (.load_mid (by rfl) 37 (.tmp 1) rfl (qb) 0 rfl [.int .i64 b1, .int .i64 b2, .int .i64 b3, .int .i64 b4, .int .i64 b5, .int .i64 b6] _ (fun W hg => (RB.out.below hg).range) Try.underlying37 rfl (by kernel_rfl)) ?_
  simp only [Act.put, List.setIfInBounds_toArray, List.set_cons_zero, List.set_cons_succ]
  refine @wpG_tk _ _ _ _ _ (some 12) (.tuple #[.bool true, .bool false]) _ _ rfl (.call (f := 42) (args := #[.agg #[.int .i64 x, .int .i64 y, .int .i64 z, .int .i64 L], .agg #[.int .i64 b1, .int .i64 b2, .int .i64 b3, .int .i64 b4, .int .i64 b5, .int .i64 b6]]) (by rfl) (fun W => by go_simp) (fun W hg => overlap_K b1 b2 b3 b4 b5 b6 x y z L (l + 1) true false W HL.out HS.out HM.out HW.out)) ?_
  simp only [Act.put, List.setIfInBounds_toArray, List.set_cons_zero, List.set_cons_succ]
  refine @wpG_tk _ _ _ _ _ (some 9) (.tuple #[.bool true, .bool false]) _ _ rfl (.val (by rfl) (fun _ _ => rfl)) ?_
  simp only [Act.put, List.setIfInBounds_toArray, List.set_cons_zero, List.set_cons_succ]
  refine @wpG_tk _ _ _ _ _ (some 13) (.bool true) _ _ rfl (.val (by rfl) (fun W hg => by go_simp)) ?_
  simp only [Act.put, List.setIfInBounds_toArray, List.set_cons_zero, List.set_cons_succ]
  refine @wpG_tk _ _ _ _ _ (some 14) (.bool false) _ _ rfl (.val (by rfl) (fun W hg => by go_simp)) ?_
  simp only [Act.put, List.setIfInBounds_toArray, List.set_cons_zero, List.set_cons_succ]
  refine @wpG_tk _ _ _ _ _ (some 6) (.bool true) _ _ rfl (.val (by rfl) (fun _ _ => rfl)) ?_
  simp only [Act.put, List.setIfInBounds_toArray, List.set_cons_zero, List.set_cons_succ]
  refine @wpG_tk _ _ _ _ _ (some 7) (.bool false) _ _ rfl (.val (by rfl) (fun _ _ => rfl)) ?_
  simp only [Act.put, List.setIfInBounds_toArray, List.set_cons_zero, List.set_cons_succ]
  refine wpG_done (fun V1 hv2 => ?_)
  have GC3 := Lib.hid hv2
  clear hv2
  go_upto_region 2 with fail
  refine wpG_region ?_
  refine @wpG_tk _ _ _ _ _ (some 16) (.bool true) _ _ rfl (.val (by rfl) (fun _ _ => rfl)) ?_
  simp only [Act.put, List.setIfInBounds_toArray, List.set_cons_zero, List.set_cons_succ]
  refine @wpG_tk _ _ _ _ _ (some 17) (.bool false) _ _ rfl (.val (by rfl) (fun W hg => by go_simp)) ?_
  simp only [Act.put, List.setIfInBounds_toArray, List.set_cons_zero, List.set_cons_succ]
  refine @wpG_tk _ _ _ _ _ (some 15) (.bool false) _ _ rfl (.val (by rfl) (fun _ _ => rfl)) ?_
  simp only [Act.put, List.setIfInBounds_toArray, List.set_cons_zero, List.set_cons_succ]
  refine wpG_done (fun V4 hv5 => ?_)
  have GC6 := Lib.hid (GC3.out.trans hv5)
  clear hv5
  go_upto_region 4 with fail
  refine wpG_region ?_
  refine @wpG_tk _ _ _ _ _ (some 19) (.bool false) _ _ rfl (.val (by rfl) (fun _ _ => rfl)) ?_
  simp only [Act.put, List.setIfInBounds_toArray, List.set_cons_zero, List.set_cons_succ]
  refine @wpG_tk _ _ _ _ _ (some 18) (.bool false) _ _ rfl (.val (by rfl) (fun _ _ => rfl)) ?_
  simp only [Act.put, List.setIfInBounds_toArray, List.set_cons_zero, List.set_cons_succ]
  refine wpG_done (fun V7 hv8 => ?_)
  have GC9 := Lib.hid (GC6.out.trans hv8)
  clear hv8
  go_upto_region 7 with fail
  refine wpG_region ?_
  refine @wpG_tk _ _ _ _ _ (some 27) (.int .i64 0) _ _ rfl (.val (by rfl) (fun _ _ => rfl)) ?_
  simp only [Act.put, List.setIfInBounds_toArray, List.set_cons_zero, List.set_cons_succ]
  refine wpG_done (fun V10 hv11 => ?_)
  have GC12 := Lib.hid (GC9.out.trans hv11)
  clear hv11
  obtain ⟨R, hR⟩ : ∃ R, R = Mo.cut (cl ++ Mo.ffl (fun o => Mo.cub b1 b2 b3 b4 b5 b6 l (x + Mo.cx 0 o l) (y + Mo.cx 1 o l) (z + Mo.cx 2 o l)) 8 0) := ⟨_, rfl⟩
  have HR := Lib.hid hR
  clear hR
  have hu2 : u.heap.size = w.heap.size + 1 := by rw [HU.out]; simp
  have hst0 : St B (fun k => k = ql ∨ (Value.slice A n c).ownBlock = some k) (w.heap.size + 1) w (.slice A n c) cl u := ⟨HN.out ▸ HOU.out, HCH.out, fun k hk => .inl (.inr hk), by omega, by omega, hB⟩
  have HST0 := Lib.hid (hst0.gr GC12.out)
  clear hst0
  go_wp2_with fail
  go_loopw [27] (fun i wr => ∃ (o k n2 c2 : Nat) (A2 : Option Addr) (cl2 : List Mo.Cb), i = .int .i64 (o : Int) ∧ o + k = 8 ∧ n2 = cl2.length ∧ n2 ≤ 4096 ∧ Mo.cut (cl2 ++ Mo.ffl (fun o => Mo.cub b1 b2 b3 b4 b5 b6 l (x + Mo.cx 0 o l) (y + Mo.cx 1 o l) (z + Mo.cx 2 o l)) k o) = R ∧ Row w.heap.size [.int .i64 x, .int .i64 y, .int .i64 z, .int .i64 L] wr ∧ Row qb [.int .i64 b1, .int .i64 b2, .int .i64 b3, .int .i64 b4, .int .i64 b5, .int .i64 b6] wr ∧ Row qc [.func (.func 41) #[] #[.pointer (some ⟨qb, 0, none⟩), .pointer (some ⟨ql, 0, none⟩), .pointer (some ⟨qc, 0, none⟩)]] wr ∧ Row ql [.slice A2 n2 c2] wr ∧ St B (fun k => k = ql ∨ (Value.slice A n c).ownBlock = some k) (w.heap.size + 1) w (.slice A2 n2 c2) cl2 wr) (fun i _ => 8 - (intOf i).toNat)
  case atStart => exact ⟨0, 8, n, c, A, cl, rfl, rfl, HN.out, hn2, HR.out.symm, R0.out.below GC12.out, RB.out.below GC12.out, RC.out.below GC12.out, RQ.out.below GC12.out, HST0.out⟩
  case round =>
    obtain ⟨o, k, n2, c2, A2, cl2, rfl, hk, hn3, hn4, hrf, hr0, hr1, hr2, hrq, hst⟩ := hrel
    have HN2 := Lib.hid hn3
    have HX0 := Lib.hid hr0
    have HX1 := Lib.hid hr1
    have HX2 := Lib.hid hr2
    have HXQ := Lib.hid hrq
    have HST := Lib.hid hst
    clear hn3 hr0 hr1 hr2 hrq hst
    cases k with
    | zero =>
      have ho : o = 8 := by omega
      have HRF := Lib.hid hrf
      clear hrf hk
      obtain rfl := ho
      go_upto_region 8 with fail
      refine wpG_region ?_
      refine @wpG_tk _ _ _ _ _ (some 28) (.bool false) _ _ rfl (.val (by rfl) (fun W hg => by go_simp)) ?_
      simp only [Act.put, List.setIfInBounds_toArray, List.set_cons_zero, List.set_cons_succ]
      refine wpG_done (fun V13 hv14 => ?_)
      have GC15 := Lib.hid hv14
      clear hv14
      go_upto_region 13 with fail
      refine wpG_region ?_
      refine @wpG_tk _ _ _ _ _ (some 5) (.bool true) _ _ rfl (.val (by rfl) (fun _ _ => rfl)) ?_
      simp only [Act.put, List.setIfInBounds_toArray, List.set_cons_zero, List.set_cons_succ]
      refine wpG_done (fun V16 hv17 => ?_)
      have GC18 := Lib.hid (GC15.out.trans hv17)
      clear hv17
      go_wp2_with fail
      go_ret
      have hs5 := HST.out.gr GC18.out
      exact ⟨_, _, _, cl2, by rw [← HR.out, ← HRF.out]; simp only [Mo.ffl, List.append_nil]; exact (Mo.cut_small (by rw [← HN2.out]; omega)).symm, HN2.out, ⟨ret_bool (by rw [← HN2.out, decide_eq_true hn4]), HXQ.out.below GC18.out⟩, HN2.out ▸ hs5.own, hs5.chg, fun k hk => by rcases hs5.ob k hk with h1 | h1; exact .inl h1; exact .inr (by omega)⟩
    | succ k =>
      obtain ⟨d0, hd0⟩ : ∃ d, d = x + Mo.cx 0 o l := ⟨_, rfl⟩
      have H0 := Lib.hid hd0
      obtain ⟨d1, hd1⟩ : ∃ d, d = y + Mo.cx 1 o l := ⟨_, rfl⟩
      have H1 := Lib.hid hd1
      obtain ⟨d2, hd2⟩ : ∃ d, d = z + Mo.cx 2 o l := ⟨_, rfl⟩
      have H2 := Lib.hid hd2
      have hsc := Mo.sits_child HS.out o
      rw [← hd0, ← hd1, ← hd2] at hsc
      have HSC := Lib.hid hsc
      obtain ⟨T, hT⟩ : ∃ T, T = Mo.cub b1 b2 b3 b4 b5 b6 l d0 d1 d2 := ⟨_, rfl⟩
      have hTg : T = (fun o => Mo.cub b1 b2 b3 b4 b5 b6 l (x + Mo.cx 0 o l) (y + Mo.cx 1 o l) (z + Mo.cx 2 o l)) o := by rw [hT, hd0, hd1, hd2]
      have hrf2 : Mo.cut (cl2 ++ (T ++ Mo.ffl (fun o => Mo.cub b1 b2 b3 b4 b5 b6 l (x + Mo.cx 0 o l) (y + Mo.cx 1 o l) (z + Mo.cx 2 o l)) k (o + 1))) = R := by rw [hTg]; exact hrf
      have HT := Lib.hid hT
      have HRF := Lib.hid hrf2
      clear hd0 hd1 hd2 hsc hT hTg hrf hrf2
      go_upto_region 8 with fail
      refine wpG_region ?_
      refine @wpG_tk _ _ _ _ _ (some 28) (.bool true) _ _ rfl (.val (by rfl) (fun W hg => by have hq : ((o : Int) < 8) := (by omega); first | (go_simp; done) | (go_simp <;> omega))) ?_
      simp only [Act.put, List.setIfInBounds_toArray, List.set_cons_zero, List.set_cons_succ]
      refine wpG_done (fun V19 hv20 => ?_)
      have GC21 := Lib.hid hv20
      clear hv20
      go_upto_region 9 with fail
      refine wpG_region ?_
      refine @wpG_tk _ _ _ _ _ (some 29) (.int .i64 (o : Int)) _ _ rfl (.val (by rfl) (fun _ _ => rfl)) ?_
      simp only [Act.put, List.setIfInBounds_toArray, List.set_cons_zero, List.set_cons_succ]
      refine @wpG_tk _ _ _ _ _ (some 8) (.int .i64 (o : Int)) _ _ rfl (.val (by rfl) (fun _ _ => rfl)) ?_
      simp only [Act.put, List.setIfInBounds_toArray, List.set_cons_zero, List.set_cons_succ]
      refine wpG_done (fun V22 hv23 => ?_)
      have GC24 := Lib.hid (GC21.out.trans hv23)
      clear hv23
      go_upto_region 10 with fail
      refine J.wpK_region (st := fun i => i == 4) (by kernel_rfl) ?_
      refine J.wpK_tk (i := 0) (some 30) (v := .func (.func 41) #[] #[.pointer (some ⟨qb, 0, none⟩), .pointer (some ⟨ql, 0, none⟩), .pointer (some ⟨qc, 0, none⟩)]) rfl rfl (by kernel_rfl) (fun _ _ _ h => h) (.val (by rfl) (fun W hg => by have c := (HX2.out.below (GC24.out.trans (Gr.un hg)) 0 _ rfl).1; go_simp)) ?_
      simp only [Act.put, List.setIfInBounds_toArray, List.set_cons_zero, List.set_cons_succ]
      refine J.wpK_tk (i := 1) (some 31) (v := .agg #[.int .i64 x, .int .i64 y, .int .i64 z, .int .i64 L]) rfl rfl (by kernel_rfl) (fun _ _ _ h => h) (.load_mid (by rfl) 27 (.tmp 4) rfl (w.heap.size) 0 rfl [.int .i64 x, .int .i64 y, .int .i64 z, .int .i64 L] _ (fun W hg => (HX0.out.below (GC24.out.trans (Gr.un hg))).range) Try.underlying27 rfl (by kernel_rfl)) ?_
      simp only [Act.put, List.setIfInBounds_toArray, List.set_cons_zero, List.set_cons_succ]
      refine J.wpK_ta (i := 2) (some 32) (v := .int .i64 (o : Int)) rfl rfl (by kernel_rfl) (fun _ _ _ h => h) (Or.inl ⟨rfl, fun _ => rfl⟩) ?_
      simp only [Act.put, List.setIfInBounds_toArray, List.set_cons_zero, List.set_cons_succ]
      refine J.wpK_tk (i := 3) (some 33) (v := .agg #[.int .i64 d0, .int .i64 d1, .int .i64 d2, .int .i64 (L - 1)]) rfl rfl (by kernel_rfl) (fun _ _ _ h => h) (.call (f := 43) (args := #[.agg #[.int .i64 x, .int .i64 y, .int .i64 z, .int .i64 L], .int .i64 (o : Int)]) (by rfl) (fun W => by go_simp) (fun W hg => (H0.out ▸ H1.out ▸ H2.out ▸ child_L x y z L l o W HL.out HS.out (by omega)))) ?_
      simp only [Act.put, List.setIfInBounds_toArray, List.set_cons_zero, List.set_cons_succ]
      refine J.wpK_call (i := 4) (some 34) 41 #[.agg #[.int .i64 d0, .int .i64 d1, .int .i64 d2, .int .i64 (L - 1)], .pointer (some ⟨qb, 0, none⟩), .pointer (some ⟨ql, 0, none⟩), .pointer (some ⟨qc, 0, none⟩)] rfl rfl (by kernel_rfl) (by rfl) rfl (fun W => by go_simp) (fun W25 hg26 => ?_)
      have hst2 := HST.out.gr (GC24.out.trans (Gr.un hg26))
      refine (ih d0 d1 d2 (L - 1) n2 c2 A2 cl2 W25 (by have := HL.out; omega) HSC.out (Nat.le_trans hB (Nat.le_trans hst2.wm hst2.sz)) HN2.out hn4 (HN2.out ▸ hst2.own) (HX1.out.below (GC24.out.trans (Gr.un hg26))) (HXQ.out.below (GC24.out.trans (Gr.un hg26))) (HX2.out.below (GC24.out.trans (Gr.un hg26)))).mono ?_
      rintro e w27 ⟨A3, n3, c3, cl3, hc3, hn3, ⟨rfl, rq3⟩, own3, chg3, ob3⟩
      refine ⟨_, rfl, ?_⟩
      obtain ⟨bv, hbv⟩ : ∃ b, b = decide (cl3.length ≤ 4096) := ⟨_, rfl⟩
      rw [← hbv]
      have HBV := Lib.hid hbv
      clear hbv
      have HC3 := Lib.hid hc3
      have HN3 := Lib.hid hn3
      have hobS : ∀ k, (k = ql ∨ (Value.slice A2 n2 c2).ownBlock = some k) → (k = ql ∨ (Value.slice A n c).ownBlock = some k) ∨ w.heap.size + 1 ≤ k := fun k hk => by rcases hk with h1 | h1; exact .inl (.inl h1); exact hst2.ob k h1
      have R28 := Lib.hid (hst2.row chg3 hobS (HX0.out.below (GC24.out.trans (Gr.un hg26))) (by omega) (fun e => by rcases e with e | e; omega; have := HO0.out.lt _ e; omega))
      have R29 := Lib.hid (hst2.row chg3 hobS (HX1.out.below (GC24.out.trans (Gr.un hg26))) (by omega) (fun e => by rcases e with e | e; omega; have := HO0.out.lt _ e; omega))
      have R30 := Lib.hid (hst2.row chg3 hobS (HX2.out.below (GC24.out.trans (Gr.un hg26))) (by omega) (fun e => by rcases e with e | e; omega; have := HO0.out.lt _ e; omega))
      have R31 := Lib.hid rq3
      have HST3 := Lib.hid (hst2.call (cl' := cl3) (v' := .slice A3 n3 c3) chg3 hobS (by rw [← hn3]; exact own3) ob3)
      clear hst2 hc3 hn3 own3 chg3 ob3 rq3 hobS hg26
      simp only [Act.put, List.setIfInBounds_toArray, List.set_cons_zero, List.set_cons_succ]
      refine J.wpK_ta (i := 5) (some 35) (v := .bool (!bv)) rfl rfl (by kernel_rfl) (fun _ _ _ h => h) (Or.inl ⟨by rfl, fun W => by go_simp⟩) ?_
      simp only [Act.put, List.setIfInBounds_toArray, List.set_cons_zero, List.set_cons_succ]
      refine J.wpK_done (by kernel_rfl) (fun V32 hv33 => ?_) _
      have GC34 := Lib.hid hv33
      clear hv33
      cases bv with
      | true =>
        have hl3 : cl3.length ≤ 4096 := of_decide_eq_true HBV.out.symm
        go_upto_region 12 with fail
        refine wpG_region ?_
        refine @wpG_tk _ _ _ _ _ (some 36) (.int .i64 ((o : Int) + 1)) _ _ rfl (.val (by rfl) (fun W hg => by (first | (go_simp; done) | (go_simp; rw [IntWalk.i64_in _ (by omega)])))) ?_
        simp only [Act.put, List.setIfInBounds_toArray, List.set_cons_zero, List.set_cons_succ]
        refine @wpG_tk _ _ _ _ _ (some 27) (.int .i64 ((o : Int) + 1)) _ _ rfl (.val (by rfl) (fun _ _ => rfl)) ?_
        simp only [Act.put, List.setIfInBounds_toArray, List.set_cons_zero, List.set_cons_succ]
        refine wpG_done (fun V35 hv36 => ?_)
        have GC37 := Lib.hid (GC34.out.trans hv36)
        clear hv36
        go_wp2_with fail
        go_roundw
        case rel => exact ⟨o + 1, k, n3, c3, A3, cl3, by go_num, by omega, HN3.out, by rw [HN3.out]; exact hl3, by rw [← HRF.out, HC3.out, Mo.cut_cut, List.append_assoc, HT.out], R28.out.below GC37.out, R29.out.below GC37.out, R30.out.below GC37.out, R31.out.below GC37.out, HST3.out.gr GC37.out⟩
        case measure => first | (simp [intOf]; done) | (simp [intOf]; omega)
      | false =>
        have hl3 : ¬ cl3.length ≤ 4096 := of_decide_eq_false HBV.out.symm
        go_upto_region 11 with fail
        refine wpG_region ?_
        refine @wpG_tk _ _ _ _ _ (some 5) (.bool false) _ _ rfl (.val (by rfl) (fun _ _ => rfl)) ?_
        simp only [Act.put, List.setIfInBounds_toArray, List.set_cons_zero, List.set_cons_succ]
        refine wpG_done (fun V38 hv39 => ?_)
        have GC40 := Lib.hid (GC34.out.trans hv39)
        clear hv39
        go_wp2_with fail
        go_ret
        have hs5 := HST3.out.gr GC40.out
        exact ⟨_, _, _, cl3, by rw [← HR.out, ← HRF.out, HC3.out, ← HT.out]; exact (Mo.cut_stop (by rw [HT.out, ← HC3.out]; exact hl3)).symm, HN3.out, ⟨ret_bool (by rw [decide_eq_false hl3]), R31.out.below GC40.out⟩, by rw [HN3.out]; exact HN3.out ▸ hs5.own, hs5.chg, fun k hk => by rcases hs5.ob k hk with h1 | h1; exact .inl h1; exact .inr (by omega)⟩
theorem cubes_rec (b1 b2 b3 b4 b5 b6 : Int) (B qb ql qc : Nat) (hne : (qb < B ∧ ql < B ∧ qc < B) ∧ qb ≠ ql ∧ qc ≠ ql) : ∀ (l : Nat) (x y z L : Int) (n c : Nat) (A : Option Addr) (cl : List Mo.Cb) (w : World), L = (l : Int) → Mo.sits x y z l → B ≤ w.heap.size → n = cl.length → n ≤ 4096 → w.ownsRow B 27 4 (.slice A n c) n (ccs cl) → Row qb [.int .i64 b1, .int .i64 b2, .int .i64 b3, .int .i64 b4, .int .i64 b5, .int .i64 b6] w → Row ql [.slice A n c] w → Row qc [.func (.func 41) #[] #[.pointer (some ⟨qb, 0, none⟩), .pointer (some ⟨ql, 0, none⟩), .pointer (some ⟨qc, 0, none⟩)]] w → Calls Try.prog 41 #[.agg #[.int .i64 x, .int .i64 y, .int .i64 z, .int .i64 L], .pointer (some ⟨qb, 0, none⟩), .pointer (some ⟨ql, 0, none⟩), .pointer (some ⟨qc, 0, none⟩)] w (CubP B (fun k => k = ql ∨ (Value.slice A n c).ownBlock = some k) (Mo.cub b1 b2 b3 b4 b5 b6 l x y z) cl w (fun v cl2 e w2 => e = .returned (.bool (decide (cl2.length ≤ 4096))) ∧ Row ql [v] w2))
  | 0, x, y, z, L, n, c, A, cl, w, hL, hs, hB, hn, hn2, hown, hqb, hql, hqc => by
    unfold Mo.cub
    cases hm : Mo.meets b1 b2 b3 b4 b5 b6 x y z 0 with
    | false => exact cub_a b1 b2 b3 b4 b5 b6 x y z L 0 B n c qb ql qc A cl w hL hs hB hne hn hn2 hown hqb hql hqc _ hm rfl
    | true =>
      rw [Mo.within0 hm, ← hL]
      exact cub_c b1 b2 b3 b4 b5 b6 x y z L 0 B n c qb ql qc A cl w hL hs hB hne hn hn2 hown hqb hql hqc hm (Mo.within0 hm)
  | l + 1, x, y, z, L, n, c, A, cl, w, hL, hs, hB, hn, hn2, hown, hqb, hql, hqc => by
    unfold Mo.cub
    cases hm : Mo.meets b1 b2 b3 b4 b5 b6 x y z (l + 1) with
    | false => exact cub_a b1 b2 b3 b4 b5 b6 x y z L (l + 1) B n c qb ql qc A cl w hL hs hB hne hn hn2 hown hqb hql hqc _ hm rfl
    | true =>
      cases hw : Mo.within b1 b2 b3 b4 b5 b6 x y z (l + 1) with
      | true => rw [← hL]; exact cub_c b1 b2 b3 b4 b5 b6 x y z L (l + 1) B n c qb ql qc A cl w hL hs hB hne hn hn2 hown hqb hql hqc hm hw
      | false => exact cub_d b1 b2 b3 b4 b5 b6 x y z L l B n c qb ql qc A cl w (by rw [hL]; rfl) hs hB hne hn hn2 hown hqb hql hqc hm hw (fun x y z L n c A cl w h1 h2 h3 h4 h5 h6 h7 h8 h9 => cubes_rec b1 b2 b3 b4 b5 b6 B qb ql qc hne l x y z L n c A cl w h1 h2 h3 h4 h5 h6 h7 h8 h9)

end Go.Proofs.Ytmjjkloeipoefaa
