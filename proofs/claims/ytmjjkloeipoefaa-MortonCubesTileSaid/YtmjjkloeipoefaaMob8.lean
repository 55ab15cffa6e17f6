/-
  Contracts: Cubes, by the program and by the specification.
-/
import Derived.Test.YtmjjkloeipoefaaMob7
import Derived.Test.YtmjjkloeipoefaaMo8
import Derived.Laws.EntriesVeiled
import Derived.Handy
namespace Go.Proofs.Ytmjjkloeipoefaa
open Go.RowKit
set_option linter.unusedVariables false
/-- what Cubes returns: a slice of its own that holds T, and the error E -/
def CubesR (T : List Mo.Cb) (E : Int) (w : World) (e : Ending) (w' : World) : Prop :=
  ∃ A n c, e = .returned (.tuple #[.slice A n c, .int .i64 E]) ∧ n = T.length ∧ w'.ownsRow w.heap.size 27 4 (.slice A n c) n (ccs T) ∧ Below w.heap.size w w'
set_option maxRecDepth 1000000 in
set_option maxHeartbeats 4000000 in
theorem cubes_any (b1 b2 b3 b4 b5 b6 : Int) (w : World) :
    Calls Try.prog 22 #[.agg #[.int .i64 b1, .int .i64 b2, .int .i64 b3, .int .i64 b4, .int .i64 b5, .int .i64 b6]] w (CubesR (Mo.cubesA b1 b2 b3 b4 b5 b6) (Mo.cubesE b1 b2 b3 b4 b5 b6) w) := by
  obtain ⟨u, hu, r0, g0⟩ := rows1 w [.int .i64 b1, .int .i64 b2, .int .i64 b3, .int .i64 b4, .int .i64 b5, .int .i64 b6] 37
  have R0 := Lib.hid r0
  have G0 := Lib.hid g0
  have HU := Lib.hid hu
  clear hu g0 r0
  go_enter Try.func22, Try.ntmps22
  go_upto_region 1 with fail
  rw [← HU.out]
  refine wpG_region ?_
  refine wpG_val (some 4) rfl (by rfl) (fun W1 hg2 => ⟨.pointer (some ⟨W1.heap.size, 0, none⟩), W1.alloc (.cells #[.slice none 0 0] 38), by (go_simp <;> rfl), ?_⟩)
  simp only [Act.put, List.setIfInBounds_toArray, List.set_cons_zero, List.set_cons_succ]
  refine wpG_done (fun V3 hv4 => ?_)
  have l6 : w.heap.size < W1.heap.size := (R0.out.below hg2).lt
  have l7 : w.heap.size ≤ W1.heap.size := (Gr.to G0.out hg2).size
  have R8 := Lib.hid (R0.out.below ((hg2.trans (Gr.al W1 (.cells #[.slice none 0 0] 38))).trans hv4))
  have R9 := Lib.hid ((Row.newl W1 [.slice none 0 0] 38).below hv4)
  have G5 := Lib.hid (Gr.to G0.out ((hg2.trans (Gr.al W1 (.cells #[.slice none 0 0] 38))).trans hv4))
  clear hv4
  go_upto_region 2 with fail
  refine wpG_region ?_
  refine wpG_val (some 5) rfl (by rfl) (fun W10 hg11 => ⟨.pointer (some ⟨W10.heap.size, 0, none⟩), W10.alloc (.cells #[.nilFunc] 64), by (go_simp <;> rfl), ?_⟩)
  simp only [Act.put, List.setIfInBounds_toArray, List.set_cons_zero, List.set_cons_succ]
  refine wpG_done (fun V12 hv13 => ?_)
  have l15 : w.heap.size < W10.heap.size := (R8.out.below hg11).lt
  have l16 : W1.heap.size < W10.heap.size := (R9.out.below hg11).lt
  have l17 : w.heap.size ≤ W10.heap.size := (Gr.to G5.out hg11).size
  have R18 := Lib.hid (R8.out.below ((hg11.trans (Gr.al W10 (.cells #[.nilFunc] 64))).trans hv13))
  have R19 := Lib.hid (R9.out.below ((hg11.trans (Gr.al W10 (.cells #[.nilFunc] 64))).trans hv13))
  have R20 := Lib.hid ((Row.newl W10 [.nilFunc] 64).below hv13)
  have G14 := Lib.hid (Gr.to G5.out ((hg11.trans (Gr.al W10 (.cells #[.nilFunc] 64))).trans hv13))
  clear hv13
  go_upto_region 3 with fail
  refine wpG_region ?_
  refine @wpG_tk _ _ _ _ _ (some 6) (.func (.func 41) #[] #[.pointer (some ⟨w.heap.size, 0, none⟩), .pointer (some ⟨W1.heap.size, 0, none⟩), .pointer (some ⟨W10.heap.size, 0, none⟩)]) _ _ rfl (.val (by rfl) (fun W hg => by go_simp)) ?_
  simp only [Act.put, List.setIfInBounds_toArray, List.set_cons_zero, List.set_cons_succ]
  refine wpG_store (none) rfl (by rfl) (fun W21 hg22 => ⟨W21.setCell ⟨W10.heap.size, 0, none⟩ (.func (.func 41) #[] #[.pointer (some ⟨w.heap.size, 0, none⟩), .pointer (some ⟨W1.heap.size, 0, none⟩), .pointer (some ⟨W10.heap.size, 0, none⟩)]), by have c := (R20.out.below hg22).cellx 0 _ rfl; have c2 := (R20.out.below hg22).softx 0 _ rfl; go_simp, ?_⟩)
  simp only [Act.put]
  refine wpG_done (fun V23 hv24 => ?_)
  have R26 := Lib.hid (((R18.out.below hg22).far (b := W10.heap.size) (by omega) 0 [.func (.func 41) #[] #[.pointer (some ⟨w.heap.size, 0, none⟩), .pointer (some ⟨W1.heap.size, 0, none⟩), .pointer (some ⟨W10.heap.size, 0, none⟩)]]).below hv24)
  have R27 := Lib.hid (((R19.out.below hg22).far (b := W10.heap.size) (by omega) 0 [.func (.func 41) #[] #[.pointer (some ⟨w.heap.size, 0, none⟩), .pointer (some ⟨W1.heap.size, 0, none⟩), .pointer (some ⟨W10.heap.size, 0, none⟩)]]).below hv24)
  have R28 : Hid (Row W10.heap.size [.func (.func 41) #[] #[.pointer (some ⟨w.heap.size, 0, none⟩), .pointer (some ⟨W1.heap.size, 0, none⟩), .pointer (some ⟨W10.heap.size, 0, none⟩)]] V23) := Lib.hid (((R20.out.below hg22).set 0 (.func (.func 41) #[] #[.pointer (some ⟨w.heap.size, 0, none⟩), .pointer (some ⟨W1.heap.size, 0, none⟩), .pointer (some ⟨W10.heap.size, 0, none⟩)]) (by simp)).below hv24)
  have G25 := Lib.hid (Gr.put1 G14.out hg22 (by omega) hv24)
  clear hg22 hv24
  go_upto_region 4 with fail
  have hw0 : w.heap.size ≤ V23.heap.size := G25.out.size
  refine J.wpK_region (st := fun i => i == 2) (by kernel_rfl) ?_
  refine J.wpK_tk (i := 0) (some 7) (v := .func (.func 41) #[] #[.pointer (some ⟨w.heap.size, 0, none⟩), .pointer (some ⟨W1.heap.size, 0, none⟩), .pointer (some ⟨W10.heap.size, 0, none⟩)]) rfl rfl (by kernel_rfl) (fun _ _ _ h => h) (.val (by rfl) (fun W hg => by have c := (R28.out.below (Gr.un hg) 0 _ rfl).1; go_simp)) ?_
  simp only [Act.put, List.setIfInBounds_toArray, List.set_cons_zero, List.set_cons_succ]
  refine J.wpK_tk (i := 1) (some 8) (v := .agg #[.int .i64 0, .int .i64 0, .int .i64 0, .int .i64 14]) rfl rfl (by kernel_rfl) (fun _ _ _ h => h) (.call (f := 44) (args := #[]) (by rfl) (fun W => by go_simp) (fun W hg => whole_any W)) ?_
  simp only [Act.put, List.setIfInBounds_toArray, List.set_cons_zero, List.set_cons_succ]
  refine J.wpK_call (i := 2) (some 9) 41 #[.agg #[.int .i64 0, .int .i64 0, .int .i64 0, .int .i64 14], .pointer (some ⟨w.heap.size, 0, none⟩), .pointer (some ⟨W1.heap.size, 0, none⟩), .pointer (some ⟨W10.heap.size, 0, none⟩)] rfl rfl (by kernel_rfl) (by rfl) rfl (fun W => by go_simp) (fun W29 hg30 => ?_)
  have hla := Row.lt (R26.out.below (Gr.un hg30))
  have hlb := Row.lt (R27.out.below (Gr.un hg30))
  have hlc := Row.lt (R28.out.below (Gr.un hg30))
  refine (cubes_rec b1 b2 b3 b4 b5 b6 W29.heap.size (w.heap.size) (W1.heap.size) (W10.heap.size) ⟨⟨hla, hlb, hlc⟩, by omega, by omega⟩ 14 0 0 0 14 0 0 none [] W29 rfl sits0 (Nat.le_refl _) rfl (by omega) (World.ownsRow_nil W29 _ _ _) (R26.out.below (Gr.un hg30)) (R27.out.below (Gr.un hg30)) (R28.out.below (Gr.un hg30))).mono ?_
  rintro e w31 ⟨A3, n3, c3, cl3, hc3, hn3, ⟨rfl, rq3⟩, own3, chg3, ob3⟩
  refine ⟨_, rfl, ?_⟩
  obtain ⟨bv, hbv⟩ : ∃ b, b = decide (cl3.length ≤ 4096) := ⟨_, rfl⟩
  rw [← hbv]
  have HBV := Lib.hid hbv
  have hGW := Gr.to G25.out (Gr.un hg30)
  have HG9 := Lib.hid (Below.trans hGW (chg3.below hGW.size (fun k hk hs => by rcases hs with e | e; omega; simp [Value.ownBlock] at e)))
  have HO3 := Lib.hid (own_mono own3 hGW.size)
  have HR3 := Lib.hid rq3
  have HC3 := Lib.hid hc3
  have HN3 := Lib.hid hn3
  clear hbv hc3 hn3 own3 chg3 ob3 rq3 hGW hg30
  simp only [Act.put, List.setIfInBounds_toArray, List.set_cons_zero, List.set_cons_succ]
  refine J.wpK_ta (i := 3) (some 10) (v := .bool (!bv)) rfl rfl (by kernel_rfl) (fun _ _ _ h => h) (Or.inl ⟨by rfl, fun W => by go_simp⟩) ?_
  simp only [Act.put, List.setIfInBounds_toArray, List.set_cons_zero, List.set_cons_succ]
  refine J.wpK_done (by kernel_rfl) (fun V32 hv33 => ?_) _
  have GC34 := Lib.hid hv33
  clear hv33
  cases bv with
  | true =>
    have hy := Mo.cubes_yes HC3.out (of_decide_eq_true HBV.out.symm)
    have HY := Lib.hid hy
    clear hy
    go_upto_region 6 with fail
    refine wpG_region ?_
    refine @wpG_tk _ _ _ _ _ (some 11) (.slice A3 n3 c3) _ _ rfl (.val (by rfl) (fun W hg => by have c := (HR3.out.below (GC34.out.trans hg) 0 _ rfl).1; go_simp)) ?_
    simp only [Act.put, List.setIfInBounds_toArray, List.set_cons_zero, List.set_cons_succ]
    refine @wpG_tk _ _ _ _ _ (some 2) (.slice A3 n3 c3) _ _ rfl (.val (by rfl) (fun _ _ => rfl)) ?_
    simp only [Act.put, List.setIfInBounds_toArray, List.set_cons_zero, List.set_cons_succ]
    refine @wpG_tk _ _ _ _ _ (some 3) (.int .i64 0) _ _ rfl (.val (by rfl) (fun _ _ => rfl)) ?_
    simp only [Act.put, List.setIfInBounds_toArray, List.set_cons_zero, List.set_cons_succ]
    refine wpG_done (fun V35 hv36 => ?_)
    have GC37 := Lib.hid (GC34.out.trans hv36)
    clear hv36
    go_wp2_with fail
    go_ret2
    exact ⟨A3, n3, c3, by rw [HY.out.2]; rfl, by rw [HY.out.1]; exact HN3.out, by rw [HY.out.1]; exact own_gr HO3.out GC37.out, Gr.to HG9.out GC37.out⟩
  | false =>
    have hy := Mo.cubes_no HC3.out (of_decide_eq_false HBV.out.symm)
    have HY := Lib.hid hy
    clear hy
    go_upto_region 5 with fail
    refine wpG_region ?_
    refine @wpG_tk _ _ _ _ _ (some 2) (.slice none 0 0) _ _ rfl (.val (by rfl) (fun _ _ => rfl)) ?_
    simp only [Act.put, List.setIfInBounds_toArray, List.set_cons_zero, List.set_cons_succ]
    refine @wpG_tk _ _ _ _ _ (some 3) (.int .i64 2) _ _ rfl (.val (by rfl) (fun _ _ => rfl)) ?_
    simp only [Act.put, List.setIfInBounds_toArray, List.set_cons_zero, List.set_cons_succ]
    refine wpG_done (fun V38 hv39 => ?_)
    have GC40 := Lib.hid (GC34.out.trans hv39)
    clear hv39
    go_wp2_with fail
    go_ret2
    exact ⟨none, 0, 0, by rw [HY.out.2]; rfl, by rw [HY.out.1]; rfl, by rw [HY.out.1]; exact World.ownsRow_nil _ _ _ _, Gr.to HG9.out GC40.out⟩
end Go.Proofs.Ytmjjkloeipoefaa
