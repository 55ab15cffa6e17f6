/-
  Contract of package morton: Runs.
-/
import Derived.Test.YtmjjkloeipoefaaMob8
import Derived.Test.YtmjjkloeipoefaaKqv
import Derived.Handy
namespace Go.Proofs.Ytmjjkloeipoefaa
open Go.RowKit
set_option linter.unusedVariables false
/-- what Runs returns: a slice of its own that holds T, and the error E -/
def RunsR (T : List (Int × Int)) (E : Int) (w : World) (e : Ending) (w' : World) : Prop :=
  ∃ A n c, e = .returned (.tuple #[.slice A n c, .int .i64 E]) ∧ n = T.length ∧ w'.ownsRow w.heap.size 54 2 (.slice A n c) n (rcs T) ∧ Below w.heap.size w w'
set_option maxRecDepth 1000000 in
set_option maxHeartbeats 4000000 in
theorem runs_any (b1 b2 b3 b4 b5 b6 : Int) (w : World) :
    Calls Try.prog 24 #[.agg #[.int .i64 b1, .int .i64 b2, .int .i64 b3, .int .i64 b4, .int .i64 b5, .int .i64 b6]] w (RunsR (Mo.runsA b1 b2 b3 b4 b5 b6) (Mo.cubesE b1 b2 b3 b4 b5 b6) w) := by
  obtain ⟨cl, hcl⟩ : ∃ l, l = Mo.cubesA b1 b2 b3 b4 b5 b6 := ⟨_, rfl⟩
  obtain ⟨ev, hev⟩ : ∃ e, e = Mo.cubesE b1 b2 b3 b4 b5 b6 := ⟨_, rfl⟩
  have hok : ∀ c ∈ cl, Mo.okC c := fun c h => Mo.cubesA_ok (hcl ▸ h)
  have HOK := Lib.hid hok
  have HCL := Lib.hid hcl
  have HEV := Lib.hid hev
  clear hcl hok
  obtain ⟨u, hu, r0, g0⟩ := rows1 w [.int .i64 b1, .int .i64 b2, .int .i64 b3, .int .i64 b4, .int .i64 b5, .int .i64 b6] 37
  have R0 := Lib.hid r0
  have G0 := Lib.hid g0
  have HU := Lib.hid hu
  clear hu g0 r0
  go_enter Try.func24, Try.ntmps24
  go_upto_region 1 with fail
  rw [← HU.out]
  refine wpG_region ?_
  refine @wpG_tk _ _ _ _ _ (some 12) (.agg #[.int .i64 b1, .int .i64 b2, .int .i64 b3, .int .i64 b4, .int .i64 b5, .int .i64 b6]) _ _ rfl (.load_mid (by rfl) 37 (.tmp 1) rfl (w.heap.size) 0 rfl [.int .i64 b1, .int .i64 b2, .int .i64 b3, .int .i64 b4, .int .i64 b5, .int .i64 b6] _ (fun W hg => (R0.out.below hg).range) Try.underlying37 rfl (by kernel_rfl)) ?_
  simp only [Act.put, List.setIfInBounds_toArray, List.set_cons_zero, List.set_cons_succ]
  refine wpG_call (some 13) 22 #[.agg #[.int .i64 b1, .int .i64 b2, .int .i64 b3, .int .i64 b4, .int .i64 b5, .int .i64 b6]] rfl (by rfl) (fun W => by go_simp) (fun W1 hg2 => ?_)
  refine (cubes_any b1 b2 b3 b4 b5 b6 W1).mono ?_
  rintro e w3 ⟨A, n, c, rfl, hn, own, bel⟩
  refine ⟨_, rfl, ?_⟩
  have hGW := Gr.to G0.out hg2
  have HG9 := Lib.hid (hGW.trans (bel.mono hGW.size))
  rw [← HCL.out] at own hn
  rw [← HEV.out]
  have HO1 := Lib.hid (own_mono own hGW.size)
  have HN := Lib.hid hn
  have hn4 : n ≤ 4096 := by rw [hn, HCL.out]; exact Mo.cubesA_len _ _ _ _ _ _
  clear hn own bel hGW hg2
  simp only [Act.put, List.setIfInBounds_toArray, List.set_cons_zero, List.set_cons_succ]
  refine @wpG_tk _ _ _ _ _ (some 11) (.tuple #[.slice A n c, .int .i64 ev]) _ _ rfl (.val (by rfl) (fun _ _ => rfl)) ?_
  simp only [Act.put, List.setIfInBounds_toArray, List.set_cons_zero, List.set_cons_succ]
  refine @wpG_tk _ _ _ _ _ (some 14) (.slice A n c) _ _ rfl (.val (by rfl) (fun W hg => by go_simp)) ?_
  simp only [Act.put, List.setIfInBounds_toArray, List.set_cons_zero, List.set_cons_succ]
  refine @wpG_tk _ _ _ _ _ (some 15) (.int .i64 ev) _ _ rfl (.val (by rfl) (fun W hg => by go_simp)) ?_
  simp only [Act.put, List.setIfInBounds_toArray, List.set_cons_zero, List.set_cons_succ]
  refine @wpG_tk _ _ _ _ _ (some 4) (.slice A n c) _ _ rfl (.val (by rfl) (fun _ _ => rfl)) ?_
  simp only [Act.put, List.setIfInBounds_toArray, List.set_cons_zero, List.set_cons_succ]
  refine @wpG_tk _ _ _ _ _ (some 5) (.int .i64 ev) _ _ rfl (.val (by rfl) (fun _ _ => rfl)) ?_
  simp only [Act.put, List.setIfInBounds_toArray, List.set_cons_zero, List.set_cons_succ]
  refine wpG_done (fun V4 hv5 => ?_)
  have GC6 := Lib.hid hv5
  clear hv5
  have hcc := Mo.cubes_cases b1 b2 b3 b4 b5 b6
  rw [← HEV.out, ← HCL.out] at hcc
  rcases hcc with h0 | ⟨h0, hnil⟩
  rotate_left
  · have HNIL := Lib.hid hnil
    clear hnil hev
    obtain rfl := h0
    go_upto_region 2 with fail
    refine wpG_region ?_
    refine @wpG_tk _ _ _ _ _ (some 16) (.int .i64 2) _ _ rfl (.val (by rfl) (fun _ _ => rfl)) ?_
    simp only [Act.put, List.setIfInBounds_toArray, List.set_cons_zero, List.set_cons_succ]
    refine @wpG_tk _ _ _ _ _ (some 17) (.bool true) _ _ rfl (.val (by rfl) (fun W hg => by have hq : (2 ≠ 0) := (by omega); first | (go_simp; done) | (go_simp <;> omega))) ?_
    simp only [Act.put, List.setIfInBounds_toArray, List.set_cons_zero, List.set_cons_succ]
    refine wpG_done (fun V7 hv8 => ?_)
    have GC9 := Lib.hid (GC6.out.trans hv8)
    clear hv8
    go_upto_region 3 with fail
    refine wpG_region ?_
    refine @wpG_tk _ _ _ _ _ (some 18) (.int .i64 2) _ _ rfl (.val (by rfl) (fun _ _ => rfl)) ?_
    simp only [Act.put, List.setIfInBounds_toArray, List.set_cons_zero, List.set_cons_succ]
    refine @wpG_tk _ _ _ _ _ (some 2) (.slice none 0 0) _ _ rfl (.val (by rfl) (fun _ _ => rfl)) ?_
    simp only [Act.put, List.setIfInBounds_toArray, List.set_cons_zero, List.set_cons_succ]
    refine @wpG_tk _ _ _ _ _ (some 3) (.int .i64 2) _ _ rfl (.val (by rfl) (fun _ _ => rfl)) ?_
    simp only [Act.put, List.setIfInBounds_toArray, List.set_cons_zero, List.set_cons_succ]
    refine wpG_done (fun V10 hv11 => ?_)
    have GC12 := Lib.hid (GC9.out.trans hv11)
    clear hv11
    go_wp2_with fail
    go_ret2
    have hr : Mo.runsA b1 b2 b3 b4 b5 b6 = [] := by unfold Mo.runsA; rw [← HCL.out, HNIL.out]; rfl
    exact ⟨none, 0, 0, by rw [← HEV.out]; rfl, by rw [hr]; rfl, by rw [hr]; exact World.ownsRow_nil _ _ _ _, Gr.to HG9.out GC12.out⟩
  · skip
    clear hev
    obtain rfl := h0
    go_upto_region 2 with fail
    refine wpG_region ?_
    refine @wpG_tk _ _ _ _ _ (some 16) (.int .i64 0) _ _ rfl (.val (by rfl) (fun _ _ => rfl)) ?_
    simp only [Act.put, List.setIfInBounds_toArray, List.set_cons_zero, List.set_cons_succ]
    refine @wpG_tk _ _ _ _ _ (some 17) (.bool false) _ _ rfl (.val (by rfl) (fun W hg => by go_simp)) ?_
    simp only [Act.put, List.setIfInBounds_toArray, List.set_cons_zero, List.set_cons_succ]
    refine wpG_done (fun V13 hv14 => ?_)
    have GC15 := Lib.hid (GC6.out.trans hv14)
    clear hv14
    go_upto_region 4 with fail
    refine wpG_region ?_
    refine @wpG_tk _ _ _ _ _ (some 6) (.slice none 0 0) _ _ rfl (.val (by rfl) (fun _ _ => rfl)) ?_
    simp only [Act.put, List.setIfInBounds_toArray, List.set_cons_zero, List.set_cons_succ]
    refine wpG_done (fun V16 hv17 => ?_)
    have GC18 := Lib.hid (GC15.out.trans hv17)
    clear hv17
    go_upto_region 5 with fail
    refine wpG_region ?_
    refine @wpG_tk _ _ _ _ _ (some 19) (.slice A n c) _ _ rfl (.val (by rfl) (fun _ _ => rfl)) ?_
    simp only [Act.put, List.setIfInBounds_toArray, List.set_cons_zero, List.set_cons_succ]
    refine @wpG_tk _ _ _ _ _ (some 20) (.int .i64 (n : Int)) _ _ rfl (.val (by rfl) (fun W hg => by go_simp)) ?_
    simp only [Act.put, List.setIfInBounds_toArray, List.set_cons_zero, List.set_cons_succ]
    refine @wpG_tk _ _ _ _ _ (some 21) (.int .i64 0) _ _ rfl (.val (by rfl) (fun _ _ => rfl)) ?_
    simp only [Act.put, List.setIfInBounds_toArray, List.set_cons_zero, List.set_cons_succ]
    refine wpG_done (fun V19 hv20 => ?_)
    have GC21 := Lib.hid (GC18.out.trans hv20)
    clear hv20
    have hst0 : RSt w A n c cl 0 none 0 0 w3 := ⟨by omega, rfl, World.ownsRow_nil _ _ _ _, HO1.out, fun g hg => by simp [Value.ownBlock], ⟨HG9.out.os, HG9.out.tape, HG9.out.output, HG9.out.size, fun k hk _ => HG9.out.block k hk⟩⟩
    have HST0 := Lib.hid hst0
    clear hst0
    have hst1 : ∀ V, Gr w3 V → RSt w A n c cl 0 none 0 0 V := fun V g => ⟨by omega, HST0.out.len, own_gr HST0.out.own2 g, own_gr HST0.out.own1 g, HST0.out.sep, HST0.out.bel.gr g⟩
    have HST1 := Lib.hid (hst1 _ GC21.out)
    clear hst1
    go_wp2_with fail
    go_loopw [21, 6] (fun i v wr => ∃ (k n2 c2 : Nat) (A2 : Option Addr), i = .int .i64 (k : Int) ∧ v = .slice A2 n2 c2 ∧ RSt w A n c cl k A2 n2 c2 wr) (fun i _ _ => n - (intOf i).toNat)
    case atStart => exact ⟨0, 0, 0, none, rfl, rfl, HST1.out⟩
    case round =>
      obtain ⟨k, n2, c2, A2, rfl, rfl, hst⟩ := hrel
      have hkn := hst.kn
      have HL2 := Lib.hid hst.len
      have HO2 := Lib.hid hst.own2
      have HO1b := Lib.hid hst.own1
      have HSEP := Lib.hid hst.sep
      have HCB := Lib.hid hst.bel
      have hn2 : n2 ≤ k := by rw [hst.len]; exact Mo.runsF_len cl k (by rw [← HN.out]; exact hkn)
      have HGB := Lib.hid (chg_below hst.bel)
      clear hst
      by_cases hlt : k < n
      rotate_left
      · have hkn2 : k = n := by omega
        clear hlt hkn
        go_upto_region 6 with fail
        refine wpG_region ?_
        refine @wpG_tk _ _ _ _ _ (some 22) (.bool false) _ _ rfl (.val (by rfl) (fun W hg => by have hq : ¬ ((k : Int) < (n : Int)) := (by omega); first | (go_simp; done) | (go_simp <;> omega))) ?_
        simp only [Act.put, List.setIfInBounds_toArray, List.set_cons_zero, List.set_cons_succ]
        refine wpG_done (fun V22 hv23 => ?_)
        have GC24 := Lib.hid hv23
        clear hv23
        go_upto_region 14 with fail
        refine wpG_region ?_
        refine @wpG_tk _ _ _ _ _ (some 54) (.slice A2 n2 c2) _ _ rfl (.val (by rfl) (fun _ _ => rfl)) ?_
        simp only [Act.put, List.setIfInBounds_toArray, List.set_cons_zero, List.set_cons_succ]
        refine @wpG_tk _ _ _ _ _ (some 2) (.slice A2 n2 c2) _ _ rfl (.val (by rfl) (fun _ _ => rfl)) ?_
        simp only [Act.put, List.setIfInBounds_toArray, List.set_cons_zero, List.set_cons_succ]
        refine @wpG_tk _ _ _ _ _ (some 3) (.int .i64 0) _ _ rfl (.val (by rfl) (fun _ _ => rfl)) ?_
        simp only [Act.put, List.setIfInBounds_toArray, List.set_cons_zero, List.set_cons_succ]
        refine wpG_done (fun V25 hv26 => ?_)
        have GC27 := Lib.hid (GC24.out.trans hv26)
        clear hv26
        go_wp2_with fail
        go_ret2
        have hfin : Mo.runsF (cl.take k) = Mo.runsA b1 b2 b3 b4 b5 b6 := by unfold Mo.runsA; rw [← HCL.out, hkn2, HN.out, List.take_length]
        exact ⟨A2, n2, c2, by rw [← HEV.out]; rfl, by rw [← hfin]; exact HL2.out, by rw [← hfin]; exact own_gr HO2.out GC27.out, chg_below (HCB.out.gr GC27.out)⟩
      · have hcl : k < cl.length := by rw [← HN.out]; exact hlt
        obtain ⟨e, he⟩ : ∃ e, cl[k]? = some e := ⟨_, List.getElem?_eq_getElem hcl⟩
        obtain ⟨lv, hl1, hl2⟩ := HOK.out e (List.mem_of_getElem? he)
        have hlv := hl2.2.2.2
        have HLV := Lib.hid hl1
        obtain ⟨f, hf⟩ : ∃ f, f = Mo.enc e.1 e.2.1 e.2.2.1 := ⟨_, rfl⟩
        obtain ⟨t, ht⟩ : ∃ t, t = Mo.enc e.1 e.2.1 e.2.2.1 + Mo.pw (3 * lv) - 1 := ⟨_, rfl⟩
        have hcf : Mo.cf e = f := hf.symm
        have hct : Mo.ct e = t := by rw [ht]; unfold Mo.ct; rw [hl1, Int.toNat_natCast]
        have hrs := Mo.runsF_succ he
        rw [hcf, hct] at hrs
        have HRS := Lib.hid hrs
        have HE := Lib.hid he
        have HF := Lib.hid hf
        have HT := Lib.hid ht
        clear he hl1 hl2 hf ht hcf hct hrs hcl
        obtain ⟨g, rfl⟩ := own_addr HO1.out (by omega)
        go_upto_region 6 with fail
        refine wpG_region ?_
        refine @wpG_tk _ _ _ _ _ (some 22) (.bool true) _ _ rfl (.val (by rfl) (fun W hg => by have hq : ((k : Int) < (n : Int)) := (by omega); first | (go_simp; done) | (go_simp <;> omega))) ?_
        simp only [Act.put, List.setIfInBounds_toArray, List.set_cons_zero, List.set_cons_succ]
        refine wpG_done (fun V28 hv29 => ?_)
        have GC30 := Lib.hid hv29
        clear hv29
        go_upto_region 7 with fail
        refine wpG_region ?_
        refine @wpG_tk _ _ _ _ _ (some 23) (.pointer (some ⟨g, k * 4, none⟩)) _ _ rfl (.val (by rfl) (fun W hg => by go_simp <;> first | rfl | omega | (simp; omega))) ?_
        simp only [Act.put, List.setIfInBounds_toArray, List.set_cons_zero, List.set_cons_succ]
        refine @wpG_tk _ _ _ _ _ (some 24) (.agg #[.int .i64 e.1, .int .i64 e.2.1, .int .i64 e.2.2.1, .int .i64 e.2.2.2]) _ _ rfl (.load_mid (by rfl) 27 (.tmp 23) rfl g (k * 4) rfl [.int .i64 e.1, .int .i64 e.2.1, .int .i64 e.2.2.1, .int .i64 e.2.2.2] _ (fun W hg => lies_range cc_len ((own_lies HO1b.out).below (GC30.out.trans hg)) HE.out) Try.underlying27 rfl (by kernel_rfl)) ?_
        simp only [Act.put, List.setIfInBounds_toArray, List.set_cons_zero, List.set_cons_succ]
        refine wpG_val (some 8) rfl (by rfl) (fun W31 hg32 => ⟨.pointer (some ⟨W31.heap.size, 0, none⟩), W31.alloc (.cells #[.int .i64 0, .int .i64 0, .int .i64 0, .int .i64 0] 27), by (go_simp <;> rfl), ?_⟩)
        simp only [Act.put, List.setIfInBounds_toArray, List.set_cons_zero, List.set_cons_succ]
        refine wpG_store (none) rfl (by rfl) (fun W33 hg34 => ⟨_, run_store_mid 27 (.tmp 8) (.tmp 24) rfl (W31.heap.size) 0 #[.int .i64 e.1, .int .i64 e.2.1, .int .i64 e.2.2.1, .int .i64 e.2.2.2] rfl rfl (Row.room hg34 4 rfl) (by kernel_rfl) (by kernel_rfl), ?_⟩)
        simp only [Act.put]
        refine wpG_done (fun V35 hv36 => ?_)
        have l38 : w.heap.size ≤ W31.heap.size := (Gr.to HGB.out (GC30.out.trans hg32)).size
        have R39 := Lib.hid (Row.made (zs := [.int .i64 0, .int .i64 0, .int .i64 0, .int .i64 0]) (ds := [.int .i64 e.1, .int .i64 e.2.1, .int .i64 e.2.2.1, .int .i64 e.2.2.2]) rfl hg34 hv36)
        have G37 := Lib.hid (Gr.to (Gr.to HGB.out (GC30.out.trans hg32)) (Gr.past hg34 hv36))
        have OW40 := Lib.hid (own_gr HO1b.out ((GC30.out.trans hg32).trans (Gr.past hg34 hv36)))
        have OW41 := Lib.hid (own_gr HO2.out ((GC30.out.trans hg32).trans (Gr.past hg34 hv36)))
        have HC42 := Lib.hid (HCB.out.gr ((GC30.out.trans hg32).trans (Gr.past hg34 hv36)))
        clear hg34 hv36 
        go_upto_region 8 with fail
        refine wpG_region ?_
        refine @wpG_tk _ _ _ _ _ (some 25) (.agg #[.int .i64 e.1, .int .i64 e.2.1, .int .i64 e.2.2.1, .int .i64 e.2.2.2]) _ _ rfl (.load_mid (by rfl) 27 (.tmp 8) rfl (W31.heap.size) 0 rfl [.int .i64 e.1, .int .i64 e.2.1, .int .i64 e.2.2.1, .int .i64 e.2.2.2] _ (fun W hg => (R39.out.below hg).range) Try.underlying27 rfl (by kernel_rfl)) ?_
        simp only [Act.put, List.setIfInBounds_toArray, List.set_cons_zero, List.set_cons_succ]
        refine @wpG_tk _ _ _ _ _ (some 26) (.agg #[.int .i64 f, .int .i64 t]) _ _ rfl (.call (f := 46) (args := #[.agg #[.int .i64 e.1, .int .i64 e.2.1, .int .i64 e.2.2.1, .int .i64 e.2.2.2]]) (by rfl) (fun W => by go_simp) (fun W hg => (HF.out ▸ HT.out ▸ run_L e.1 e.2.1 e.2.2.1 e.2.2.2 lv W HLV.out hlv))) ?_
        simp only [Act.put, List.setIfInBounds_toArray, List.set_cons_zero, List.set_cons_succ]
        refine wpG_val (some 9) rfl (by rfl) (fun W43 hg44 => ⟨.pointer (some ⟨W43.heap.size, 0, none⟩), W43.alloc (.cells #[.int .i64 0, .int .i64 0] 54), by (go_simp <;> rfl), ?_⟩)
        simp only [Act.put, List.setIfInBounds_toArray, List.set_cons_zero, List.set_cons_succ]
        refine wpG_store (none) rfl (by rfl) (fun W45 hg46 => ⟨_, run_store_mid 54 (.tmp 9) (.tmp 26) rfl (W43.heap.size) 0 #[.int .i64 f, .int .i64 t] rfl rfl (Row.room hg46 2 rfl) (by kernel_rfl) (by kernel_rfl), ?_⟩)
        simp only [Act.put]
        refine wpG_done (fun V47 hv48 => ?_)
        have l50 : W31.heap.size < W43.heap.size := (R39.out.below hg44).lt
        have l51 : w.heap.size ≤ W43.heap.size := (Gr.to G37.out hg44).size
        have R52 := Lib.hid ((R39.out.below hg44).past hg46 hv48)
        have R53 := Lib.hid (Row.made (zs := [.int .i64 0, .int .i64 0]) (ds := [.int .i64 f, .int .i64 t]) rfl hg46 hv48)
        have G49 := Lib.hid (Gr.to (Gr.to G37.out hg44) (Gr.past hg46 hv48))
        have OW54 := Lib.hid (own_gr OW40.out (hg44.trans (Gr.past hg46 hv48)))
        have OW55 := Lib.hid (own_gr OW41.out (hg44.trans (Gr.past hg46 hv48)))
        have HC56 := Lib.hid (HC42.out.gr (hg44.trans (Gr.past hg46 hv48)))
        clear hg46 hv48 
        go_upto_region 9 with fail
        refine wpG_region ?_
        refine @wpG_tk _ _ _ _ _ (some 27) (.slice A2 n2 c2) _ _ rfl (.val (by rfl) (fun _ _ => rfl)) ?_
        simp only [Act.put, List.setIfInBounds_toArray, List.set_cons_zero, List.set_cons_succ]
        refine @wpG_tk _ _ _ _ _ (some 28) (.int .i64 (n2 : Int)) _ _ rfl (.val (by rfl) (fun W hg => by go_simp)) ?_
        simp only [Act.put, List.setIfInBounds_toArray, List.set_cons_zero, List.set_cons_succ]
        refine @wpG_tk _ _ _ _ _ (some 29) (.int .i64 ((n2 : Int) - 1)) _ _ rfl (.val (by rfl) (fun W hg => by (first | (go_simp; done) | (go_simp; rw [IntWalk.i64_in _ (by omega)])))) ?_
        simp only [Act.put, List.setIfInBounds_toArray, List.set_cons_zero, List.set_cons_succ]
        refine @wpG_tk _ _ _ _ _ (some 10) (.int .i64 ((n2 : Int) - 1)) _ _ rfl (.val (by rfl) (fun _ _ => rfl)) ?_
        simp only [Act.put, List.setIfInBounds_toArray, List.set_cons_zero, List.set_cons_succ]
        refine wpG_done (fun V57 hv58 => ?_)
        have GC59 := Lib.hid hv58
        clear hv58
        have hlast := Mo.list_cases (Mo.runsF (cl.take k))
        have hbd := Mo.runsF_take_bd HOK.out k
        rcases hlast with hnil | ⟨pre, a, b, hpre⟩
        · have hz : n2 = 0 := by rw [HL2.out, hnil]; rfl
          have HNIL := Lib.hid hnil
          clear hnil hbd
          go_upto_region 10 with fail
          refine wpK_region (by kernel_rfl) ?_
          refine wpK_ta (i := 0) (some 30) (v := .int .i64 ((n2 : Int) - 1)) rfl rfl (by kernel_rfl) (fun _ _ _ h => h) (Or.inl ⟨rfl, fun _ => rfl⟩) ?_
          simp only [Act.put, List.setIfInBounds_toArray, List.set_cons_zero, List.set_cons_succ]
          refine wpK_ta (i := 1) (some 31) (v := .bool false) rfl rfl (by kernel_rfl) (fun _ _ _ h => h) (Or.inl ⟨by rfl, fun W => by have hq : ¬ ((n2 : Int) - 1 ≥ 0) := (by omega); first | (go_simp; done) | (go_simp <;> omega)⟩) ?_
          simp only [Act.put, List.setIfInBounds_toArray, List.set_cons_zero, List.set_cons_succ]
          refine wpK_ta (i := 2) (some 32) (v := .bool false) rfl rfl (by kernel_rfl) (fun _ _ _ h => h) (Or.inl ⟨rfl, fun _ => rfl⟩) ?_
          simp only [Act.put, List.setIfInBounds_toArray, List.set_cons_zero, List.set_cons_succ]
          refine wpK_ta (i := 3) (some 33) (v := undef) rfl rfl (by kernel_rfl) (fun _ _ _ h => h) (Or.inr ⟨by rfl, rfl⟩) ?_
          simp only [Act.put, List.setIfInBounds_toArray, List.set_cons_zero, List.set_cons_succ]
          refine wpK_ta (i := 4) (some 34) (v := undef) rfl rfl (by kernel_rfl) (fun _ _ _ h => h) (Or.inr ⟨by rfl, rfl⟩) ?_
          simp only [Act.put, List.setIfInBounds_toArray, List.set_cons_zero, List.set_cons_succ]
          refine wpK_ta (i := 5) (some 35) (v := undef) rfl rfl (by kernel_rfl) (fun _ _ _ h => h) (Or.inr ⟨by rfl, rfl⟩) ?_
          simp only [Act.put, List.setIfInBounds_toArray, List.set_cons_zero, List.set_cons_succ]
          refine wpK_ta (i := 6) (some 36) (v := undef) rfl rfl (by kernel_rfl) (fun _ _ _ h => h) (Or.inr ⟨by rfl, rfl⟩) ?_
          simp only [Act.put, List.setIfInBounds_toArray, List.set_cons_zero, List.set_cons_succ]
          refine wpK_ta (i := 7) (some 37) (v := undef) rfl rfl (by kernel_rfl) (fun _ _ _ h => h) (Or.inr ⟨by rfl, rfl⟩) ?_
          simp only [Act.put, List.setIfInBounds_toArray, List.set_cons_zero, List.set_cons_succ]
          refine wpK_ta (i := 8) (some 38) (v := undef) rfl rfl (by kernel_rfl) (fun _ _ _ h => h) (Or.inr ⟨by rfl, rfl⟩) ?_
          simp only [Act.put, List.setIfInBounds_toArray, List.set_cons_zero, List.set_cons_succ]
          refine wpK_ta (i := 9) (some 39) (v := undef) rfl rfl (by kernel_rfl) (fun _ _ _ h => h) (Or.inr ⟨by rfl, rfl⟩) ?_
          simp only [Act.put, List.setIfInBounds_toArray, List.set_cons_zero, List.set_cons_succ]
          refine wpK_ta (i := 10) (some 40) (v := undef) rfl rfl (by kernel_rfl) (fun _ _ _ h => h) (Or.inr ⟨by rfl, rfl⟩) ?_
          simp only [Act.put, List.setIfInBounds_toArray, List.set_cons_zero, List.set_cons_succ]
          refine wpK_ta (i := 11) (some 41) (v := undef) rfl rfl (by kernel_rfl) (fun _ _ _ h => h) (Or.inr ⟨by rfl, rfl⟩) ?_
          simp only [Act.put, List.setIfInBounds_toArray, List.set_cons_zero, List.set_cons_succ]
          refine wpK_ta (i := 12) (some 42) (v := .bool false) rfl rfl (by kernel_rfl) (fun _ _ _ h => h) (Or.inl ⟨by rfl, fun W => by go_simp⟩) ?_
          simp only [Act.put, List.setIfInBounds_toArray, List.set_cons_zero, List.set_cons_succ]
          refine wpK_done (by kernel_rfl) (fun V60 hv61 => ?_) _
          have GC62 := Lib.hid (GC59.out.trans (Gr.un hv61))
          clear hv61
          obtain ⟨i0, hi0, hz0, hz1, hz2⟩ := info_parts infoRun
          go_upto_region 12 with fail
          refine wpG_region ?_
          refine @wpG_tk _ _ _ _ _ (some 49) (.slice A2 n2 c2) _ _ rfl (.val (by rfl) (fun _ _ => rfl)) ?_
          simp only [Act.put, List.setIfInBounds_toArray, List.set_cons_zero, List.set_cons_succ]
          refine @wpG_tk _ _ _ _ _ (some 50) (.agg #[.int .i64 f, .int .i64 t]) _ _ rfl (.load_mid (by rfl) 54 (.tmp 9) rfl (W43.heap.size) 0 rfl [.int .i64 f, .int .i64 t] _ (fun W hg => (R53.out.below (GC62.out.trans hg)).range) Try.underlying54 rfl (by kernel_rfl)) ?_
          simp only [Act.put, List.setIfInBounds_toArray, List.set_cons_zero, List.set_cons_succ]
          refine wpG_val (some 51) rfl (by rfl) (fun W63 hg64 => ⟨.slice (some ⟨W63.heap.size, 0, none⟩) 1 1, W63.alloc (.cells #[.int .i64 f, .int .i64 t] 54), by (go_simp <;> rfl), ?_⟩)
          simp only [Act.put, List.setIfInBounds_toArray, List.set_cons_zero, List.set_cons_succ]
          obtain ⟨U65, hu, rn, gn⟩ : ∃ zw, zw = W63.alloc (.cells #[.int .i64 f, .int .i64 t] 54) ∧ Row W63.heap.size [.int .i64 f, .int .i64 t] zw ∧ Gr W63 zw := ⟨_, rfl, Row.newl W63 [.int .i64 f, .int .i64 t] 54, Gr.al _ _⟩
          rw [← hu]
          have RN66 := Lib.hid rn
          have GB67 := Lib.hid (Gr.trans (GC62.out.trans hg64) gn)
          clear hu rn gn hg64
          refine wpG_app _ (some 52) rfl rfl (.tmp 49) (.tmp 51) 42 42 rfl w.heap.size 54 i0 _ 2 16 Try.underlying42 hi0 hz0 hz1 hz2 rfl _ _ _ (own_gr OW55.out (GB67.out.trans (Gr.refl _))) _ 1 [.int .i64 f, .int .i64 t] (fun w2 h2 => src_new Try.underlying42 [.int .i64 f, .int .i64 t] 2 rfl RN66.out (by intro u hu; simp at hu; rcases hu with rfl | rfl <;> rfl) w2 h2 (by simp)) rfl rfl (by simp only [maxLen]; omega) (by omega) (Nat.le_trans G49.out.size (GB67.out.trans (Gr.refl _)).size) (fun v74 W68 W69 hg70 ow73 gb71 wh72 => ?_)
          have HO1Z := Lib.hid ((Chg.of_grown gb71).own (own_gr OW54.out ((GB67.out.trans (Gr.refl _)).trans hg70)) (fun q h1 h2 => HSEP.out q h1 h2))
          have HC75 := Lib.hid (HC56.out.app ((GB67.out.trans (Gr.refl _)).trans hg70) gb71 (fun k hk => .inr (OW55.out.lt k hk).1))
          have hszW68 : V47.heap.size ≤ W68.heap.size := ((GB67.out.trans (Gr.refl _)).trans hg70).size
          obtain ⟨A1, k1, rfl, hle1, hcap1, _⟩ := own_shape ow73
          have OW76 := Lib.hid ow73
          have HWH := Lib.hid wh72
          clear ow73 wh72 gb71
          simp only [Act.put, List.setIfInBounds_toArray, List.set_cons_zero, List.set_cons_succ]
          refine @wpG_tk _ _ _ _ _ (some 6) (.slice A1 (n2 + 1) k1) _ _ rfl (.val (by rfl) (fun _ _ => rfl)) ?_
          simp only [Act.put, List.setIfInBounds_toArray, List.set_cons_zero, List.set_cons_succ]
          refine wpG_done (fun V77 hv78 => ?_)
          have GC79 := Lib.hid hv78
          clear hv78
          go_upto_region 13 with fail
          refine wpG_region ?_
          refine @wpG_tk _ _ _ _ _ (some 53) (.int .i64 ((k : Int) + 1)) _ _ rfl (.val (by rfl) (fun W hg => by (first | (go_simp; done) | (go_simp; rw [IntWalk.i64_in _ (by omega)])))) ?_
          simp only [Act.put, List.setIfInBounds_toArray, List.set_cons_zero, List.set_cons_succ]
          refine @wpG_tk _ _ _ _ _ (some 21) (.int .i64 ((k : Int) + 1)) _ _ rfl (.val (by rfl) (fun _ _ => rfl)) ?_
          simp only [Act.put, List.setIfInBounds_toArray, List.set_cons_zero, List.set_cons_succ]
          refine wpG_done (fun V80 hv81 => ?_)
          have GC82 := Lib.hid (GC79.out.trans hv81)
          clear hv81
          go_wp2_with fail
          go_roundw
          case rel => exact ⟨k + 1, n2 + 1, k1, A1, by go_num, rfl, ⟨by omega, by rw [HRS.out, HNIL.out, Mo.mrg_nil]; first | done | (rw [hz]; done) | (rw [hz]; rfl), by rw [HRS.out, HNIL.out, Mo.mrg_nil]; exact own_gr (by have h := OW76.out; rw [HNIL.out] at h; rw [rcs_one]; exact h) GC82.out, own_gr HO1Z.out GC82.out, fun g1 hg1 => by rcases HWH.out with h1 | h1; rw [h1]; exact HSEP.out g1 hg1; rw [h1]; intro h2; injection h2 with h2; have h3 := (OW54.out.lt g1 hg1).2; have h4 := hszW68; omega, HC75.out.gr GC82.out⟩⟩
          case measure => first | (simp [intOf]; done) | (simp [intOf]; omega)
        · have hz : n2 = pre.length + 1 := by rw [HL2.out, hpre, List.length_append]; rfl
          have hb2 := hbd (a, b) (by rw [hpre]; simp)
          have hb3 : -1 ≤ b ∧ b ≤ 8796093022208 := hb2
          have HPRE := Lib.hid hpre
          have hz1 : 1 ≤ n2 := by omega
          have HZ := Lib.hid hz
          clear hpre hbd hb2 hz
          obtain ⟨g2, rfl⟩ := own_addr OW55.out (by omega)
          have hcell : ∀ V, Gr V47 V → V.cell? ⟨g2, (n2 - 1) * 2 + 1, none⟩ = some (.int .i64 b) := fun V hV => by rw [(own_gr OW55.out hV).cellAt _ (by omega), HPRE.out, show n2 - 1 = pre.length by have := HZ.out; omega]; exact rcs_last pre a b
          have HCE := Lib.hid hcell
          clear hcell
          by_cases hq : b + 1 = f
          · have HQ := Lib.hid hq
            go_upto_region 10 with fail
            refine wpK_region (by kernel_rfl) ?_
            refine wpK_ta (i := 0) (some 30) (v := .int .i64 ((n2 : Int) - 1)) rfl rfl (by kernel_rfl) (fun _ _ _ h => h) (Or.inl ⟨rfl, fun _ => rfl⟩) ?_
            simp only [Act.put, List.setIfInBounds_toArray, List.set_cons_zero, List.set_cons_succ]
            refine wpK_ta (i := 1) (some 31) (v := .bool true) rfl rfl (by kernel_rfl) (fun _ _ _ h => h) (Or.inl ⟨by rfl, fun W => by have hq : ((n2 : Int) - 1 ≥ 0) := (by omega); first | (go_simp; done) | (go_simp <;> omega)⟩) ?_
            simp only [Act.put, List.setIfInBounds_toArray, List.set_cons_zero, List.set_cons_succ]
            refine wpK_ta (i := 2) (some 32) (v := .bool true) rfl rfl (by kernel_rfl) (fun _ _ _ h => h) (Or.inl ⟨rfl, fun _ => rfl⟩) ?_
            simp only [Act.put, List.setIfInBounds_toArray, List.set_cons_zero, List.set_cons_succ]
            refine wpK_ta (i := 3) (some 33) (v := .slice (some ⟨g2, 0, none⟩) n2 c2) rfl rfl (by kernel_rfl) (fun _ _ _ h => h) (Or.inl ⟨rfl, fun _ => rfl⟩) ?_
            simp only [Act.put, List.setIfInBounds_toArray, List.set_cons_zero, List.set_cons_succ]
            refine wpK_ta (i := 4) (some 34) (v := .int .i64 ((n2 : Int) - 1)) rfl rfl (by kernel_rfl) (fun _ _ _ h => h) (Or.inl ⟨rfl, fun _ => rfl⟩) ?_
            simp only [Act.put, List.setIfInBounds_toArray, List.set_cons_zero, List.set_cons_succ]
            refine wpK_ta (i := 5) (some 35) (v := .pointer (some ⟨g2, (n2 - 1) * 2, none⟩)) rfl rfl (by kernel_rfl) (fun _ _ _ h => h) (Or.inl ⟨by rfl, fun W => by go_simp <;> first | rfl | omega | (simp; omega)⟩) ?_
            simp only [Act.put, List.setIfInBounds_toArray, List.set_cons_zero, List.set_cons_succ]
            refine wpK_ta (i := 6) (some 36) (v := .pointer (some ⟨g2, (n2 - 1) * 2 + 1, none⟩)) rfl rfl (by kernel_rfl) (fun _ _ _ h => h) (Or.inl ⟨by rfl, fun W => by go_simp⟩) ?_
            simp only [Act.put, List.setIfInBounds_toArray, List.set_cons_zero, List.set_cons_succ]
            refine wpK_tk (i := 7) (some 37) (v := .int .i64 b) rfl rfl (by kernel_rfl) (fun _ _ _ h => h) (.val (by rfl) (fun W hg => by have c := (HCE.out _ (GC59.out.trans (Gr.un hg))); go_simp)) ?_
            simp only [Act.put, List.setIfInBounds_toArray, List.set_cons_zero, List.set_cons_succ]
            refine wpK_ta (i := 8) (some 38) (v := .int .i64 (b + 1)) rfl rfl (by kernel_rfl) (fun _ _ _ h => h) (Or.inl ⟨by rfl, fun W => by (first | (go_simp; done) | (go_simp; rw [IntWalk.i64_in _ (by omega)]))⟩) ?_
            simp only [Act.put, List.setIfInBounds_toArray, List.set_cons_zero, List.set_cons_succ]
            refine wpK_ta (i := 9) (some 39) (v := .pointer (some ⟨W43.heap.size, 0, none⟩)) rfl rfl (by kernel_rfl) (fun _ _ _ h => h) (Or.inl ⟨by rfl, fun W => by go_simp⟩) ?_
            simp only [Act.put, List.setIfInBounds_toArray, List.set_cons_zero, List.set_cons_succ]
            refine wpK_tk (i := 10) (some 40) (v := .int .i64 f) rfl rfl (by kernel_rfl) (fun _ _ _ h => h) (.val (by rfl) (fun W hg => by have c := (R53.out.below (GC59.out.trans (Gr.un hg)) 0 _ rfl).1; go_simp)) ?_
            simp only [Act.put, List.setIfInBounds_toArray, List.set_cons_zero, List.set_cons_succ]
            refine wpK_ta (i := 11) (some 41) (v := .bool true) rfl rfl (by kernel_rfl) (fun _ _ _ h => h) (Or.inl ⟨by rfl, fun W => by have hq : (b + 1 = f) := (by omega); first | (go_simp; done) | (go_simp <;> omega)⟩) ?_
            simp only [Act.put, List.setIfInBounds_toArray, List.set_cons_zero, List.set_cons_succ]
            refine wpK_ta (i := 12) (some 42) (v := .bool true) rfl rfl (by kernel_rfl) (fun _ _ _ h => h) (Or.inl ⟨by rfl, fun W => by go_simp⟩) ?_
            simp only [Act.put, List.setIfInBounds_toArray, List.set_cons_zero, List.set_cons_succ]
            refine wpK_done (by kernel_rfl) (fun V83 hv84 => ?_) _
            have GC85 := Lib.hid (GC59.out.trans (Gr.un hv84))
            clear hv84
            go_upto_region 11 with fail
            refine wpG_region ?_
            refine @wpG_tk _ _ _ _ _ (some 43) (.slice (some ⟨g2, 0, none⟩) n2 c2) _ _ rfl (.val (by rfl) (fun _ _ => rfl)) ?_
            simp only [Act.put, List.setIfInBounds_toArray, List.set_cons_zero, List.set_cons_succ]
            refine @wpG_tk _ _ _ _ _ (some 44) (.int .i64 ((n2 : Int) - 1)) _ _ rfl (.val (by rfl) (fun _ _ => rfl)) ?_
            simp only [Act.put, List.setIfInBounds_toArray, List.set_cons_zero, List.set_cons_succ]
            refine @wpG_tk _ _ _ _ _ (some 45) (.pointer (some ⟨W43.heap.size, 1, none⟩)) _ _ rfl (.val (by rfl) (fun W hg => by go_simp)) ?_
            simp only [Act.put, List.setIfInBounds_toArray, List.set_cons_zero, List.set_cons_succ]
            refine @wpG_tk _ _ _ _ _ (some 46) (.int .i64 t) _ _ rfl (.val (by rfl) (fun W hg => by have c := (R53.out.below (GC85.out.trans hg) 1 _ rfl).1; go_simp)) ?_
            simp only [Act.put, List.setIfInBounds_toArray, List.set_cons_zero, List.set_cons_succ]
            refine @wpG_tk _ _ _ _ _ (some 47) (.pointer (some ⟨g2, (n2 - 1) * 2, none⟩)) _ _ rfl (.val (by rfl) (fun W hg => by go_simp <;> first | rfl | omega | (simp; omega))) ?_
            simp only [Act.put, List.setIfInBounds_toArray, List.set_cons_zero, List.set_cons_succ]
            refine @wpG_tk _ _ _ _ _ (some 48) (.pointer (some ⟨g2, (n2 - 1) * 2 + 1, none⟩)) _ _ rfl (.val (by rfl) (fun W hg => by go_simp)) ?_
            simp only [Act.put, List.setIfInBounds_toArray, List.set_cons_zero, List.set_cons_succ]
            refine wpG_store (none) rfl (by rfl) (fun W86 hg87 => ⟨W86.setCell ⟨g2, (n2 - 1) * 2 + 1, none⟩ (.int .i64 t), by have c := HCE.out _ (GC85.out.trans hg87); have c2 := (own_gr OW55.out (GC85.out.trans hg87)).frozenAt ((n2 - 1) * 2 + 1); go_simp, ?_⟩)
            have hso := (own_gr OW55.out (GC85.out.trans hg87)).stored ((n2 - 1) * 2 + 1) (.int .i64 t)
            have HSO := Lib.hid hso.1
            have HCS := Lib.hid (HC56.out.app (GC85.out.trans hg87) hso.2 (fun k hk => .inr ((OW55.out.lt k hk).1)))
            have HO1Z := Lib.hid ((Chg.of_grown hso.2).own (own_gr OW54.out (GC85.out.trans hg87)) (fun q h1 h2 => HSEP.out q h1 h2))
            clear hso
            simp only [Act.put]
            refine wpG_done (fun V88 hv89 => ?_)
            have GC90 := Lib.hid hv89
            clear hv89
            go_upto_region 13 with fail
            refine wpG_region ?_
            refine @wpG_tk _ _ _ _ _ (some 53) (.int .i64 ((k : Int) + 1)) _ _ rfl (.val (by rfl) (fun W hg => by (first | (go_simp; done) | (go_simp; rw [IntWalk.i64_in _ (by omega)])))) ?_
            simp only [Act.put, List.setIfInBounds_toArray, List.set_cons_zero, List.set_cons_succ]
            refine @wpG_tk _ _ _ _ _ (some 21) (.int .i64 ((k : Int) + 1)) _ _ rfl (.val (by rfl) (fun _ _ => rfl)) ?_
            simp only [Act.put, List.setIfInBounds_toArray, List.set_cons_zero, List.set_cons_succ]
            refine wpG_done (fun V91 hv92 => ?_)
            have GC93 := Lib.hid (GC90.out.trans hv92)
            clear hv92
            go_wp2_with fail
            go_roundw
            case rel => exact ⟨k + 1, n2, c2, (some ⟨g2, 0, none⟩), by go_num, rfl, ⟨by omega, by rw [HRS.out, HPRE.out, Mo.mrg_yes HQ.out, HZ.out, List.length_append]; try rfl, by rw [HRS.out, HPRE.out, Mo.mrg_yes HQ.out]; exact own_gr (by have h := HSO.out; rw [HPRE.out, rcs_set2 _ _ _ _ _ (by have := HZ.out; omega)] at h; exact h) GC93.out, own_gr HO1Z.out GC93.out, HSEP.out, HCS.out.gr GC93.out⟩⟩
            case measure => first | (simp [intOf]; done) | (simp [intOf]; omega)
          · have HQ := Lib.hid hq
            go_upto_region 10 with fail
            refine wpK_region (by kernel_rfl) ?_
            refine wpK_ta (i := 0) (some 30) (v := .int .i64 ((n2 : Int) - 1)) rfl rfl (by kernel_rfl) (fun _ _ _ h => h) (Or.inl ⟨rfl, fun _ => rfl⟩) ?_
            simp only [Act.put, List.setIfInBounds_toArray, List.set_cons_zero, List.set_cons_succ]
            refine wpK_ta (i := 1) (some 31) (v := .bool true) rfl rfl (by kernel_rfl) (fun _ _ _ h => h) (Or.inl ⟨by rfl, fun W => by have hq : ((n2 : Int) - 1 ≥ 0) := (by omega); first | (go_simp; done) | (go_simp <;> omega)⟩) ?_
            simp only [Act.put, List.setIfInBounds_toArray, List.set_cons_zero, List.set_cons_succ]
            refine wpK_ta (i := 2) (some 32) (v := .bool true) rfl rfl (by kernel_rfl) (fun _ _ _ h => h) (Or.inl ⟨rfl, fun _ => rfl⟩) ?_
            simp only [Act.put, List.setIfInBounds_toArray, List.set_cons_zero, List.set_cons_succ]
            refine wpK_ta (i := 3) (some 33) (v := .slice (some ⟨g2, 0, none⟩) n2 c2) rfl rfl (by kernel_rfl) (fun _ _ _ h => h) (Or.inl ⟨rfl, fun _ => rfl⟩) ?_
            simp only [Act.put, List.setIfInBounds_toArray, List.set_cons_zero, List.set_cons_succ]
            refine wpK_ta (i := 4) (some 34) (v := .int .i64 ((n2 : Int) - 1)) rfl rfl (by kernel_rfl) (fun _ _ _ h => h) (Or.inl ⟨rfl, fun _ => rfl⟩) ?_
            simp only [Act.put, List.setIfInBounds_toArray, List.set_cons_zero, List.set_cons_succ]
            refine wpK_ta (i := 5) (some 35) (v := .pointer (some ⟨g2, (n2 - 1) * 2, none⟩)) rfl rfl (by kernel_rfl) (fun _ _ _ h => h) (Or.inl ⟨by rfl, fun W => by go_simp <;> first | rfl | omega | (simp; omega)⟩) ?_
            simp only [Act.put, List.setIfInBounds_toArray, List.set_cons_zero, List.set_cons_succ]
            refine wpK_ta (i := 6) (some 36) (v := .pointer (some ⟨g2, (n2 - 1) * 2 + 1, none⟩)) rfl rfl (by kernel_rfl) (fun _ _ _ h => h) (Or.inl ⟨by rfl, fun W => by go_simp⟩) ?_
            simp only [Act.put, List.setIfInBounds_toArray, List.set_cons_zero, List.set_cons_succ]
            refine wpK_tk (i := 7) (some 37) (v := .int .i64 b) rfl rfl (by kernel_rfl) (fun _ _ _ h => h) (.val (by rfl) (fun W hg => by have c := (HCE.out _ (GC59.out.trans (Gr.un hg))); go_simp)) ?_
            simp only [Act.put, List.setIfInBounds_toArray, List.set_cons_zero, List.set_cons_succ]
            refine wpK_ta (i := 8) (some 38) (v := .int .i64 (b + 1)) rfl rfl (by kernel_rfl) (fun _ _ _ h => h) (Or.inl ⟨by rfl, fun W => by (first | (go_simp; done) | (go_simp; rw [IntWalk.i64_in _ (by omega)]))⟩) ?_
            simp only [Act.put, List.setIfInBounds_toArray, List.set_cons_zero, List.set_cons_succ]
            refine wpK_ta (i := 9) (some 39) (v := .pointer (some ⟨W43.heap.size, 0, none⟩)) rfl rfl (by kernel_rfl) (fun _ _ _ h => h) (Or.inl ⟨by rfl, fun W => by go_simp⟩) ?_
            simp only [Act.put, List.setIfInBounds_toArray, List.set_cons_zero, List.set_cons_succ]
            refine wpK_tk (i := 10) (some 40) (v := .int .i64 f) rfl rfl (by kernel_rfl) (fun _ _ _ h => h) (.val (by rfl) (fun W hg => by have c := (R53.out.below (GC59.out.trans (Gr.un hg)) 0 _ rfl).1; go_simp)) ?_
            simp only [Act.put, List.setIfInBounds_toArray, List.set_cons_zero, List.set_cons_succ]
            refine wpK_ta (i := 11) (some 41) (v := .bool false) rfl rfl (by kernel_rfl) (fun _ _ _ h => h) (Or.inl ⟨by rfl, fun W => by have hq : ¬ (b + 1 = f) := (by omega); first | (go_simp; done) | (go_simp <;> omega)⟩) ?_
            simp only [Act.put, List.setIfInBounds_toArray, List.set_cons_zero, List.set_cons_succ]
            refine wpK_ta (i := 12) (some 42) (v := .bool false) rfl rfl (by kernel_rfl) (fun _ _ _ h => h) (Or.inl ⟨by rfl, fun W => by go_simp⟩) ?_
            simp only [Act.put, List.setIfInBounds_toArray, List.set_cons_zero, List.set_cons_succ]
            refine wpK_done (by kernel_rfl) (fun V94 hv95 => ?_) _
            have GC96 := Lib.hid (GC59.out.trans (Gr.un hv95))
            clear hv95
            obtain ⟨i0, hi0, hz0, hz1, hz2⟩ := info_parts infoRun
            go_upto_region 12 with fail
            refine wpG_region ?_
            refine @wpG_tk _ _ _ _ _ (some 49) (.slice (some ⟨g2, 0, none⟩) n2 c2) _ _ rfl (.val (by rfl) (fun _ _ => rfl)) ?_
            simp only [Act.put, List.setIfInBounds_toArray, List.set_cons_zero, List.set_cons_succ]
            refine @wpG_tk _ _ _ _ _ (some 50) (.agg #[.int .i64 f, .int .i64 t]) _ _ rfl (.load_mid (by rfl) 54 (.tmp 9) rfl (W43.heap.size) 0 rfl [.int .i64 f, .int .i64 t] _ (fun W hg => (R53.out.below (GC96.out.trans hg)).range) Try.underlying54 rfl (by kernel_rfl)) ?_
            simp only [Act.put, List.setIfInBounds_toArray, List.set_cons_zero, List.set_cons_succ]
            refine wpG_val (some 51) rfl (by rfl) (fun W97 hg98 => ⟨.slice (some ⟨W97.heap.size, 0, none⟩) 1 1, W97.alloc (.cells #[.int .i64 f, .int .i64 t] 54), by (go_simp <;> rfl), ?_⟩)
            simp only [Act.put, List.setIfInBounds_toArray, List.set_cons_zero, List.set_cons_succ]
            obtain ⟨U99, hu, rn, gn⟩ : ∃ zw, zw = W97.alloc (.cells #[.int .i64 f, .int .i64 t] 54) ∧ Row W97.heap.size [.int .i64 f, .int .i64 t] zw ∧ Gr W97 zw := ⟨_, rfl, Row.newl W97 [.int .i64 f, .int .i64 t] 54, Gr.al _ _⟩
            rw [← hu]
            have RN100 := Lib.hid rn
            have GB101 := Lib.hid (Gr.trans (GC96.out.trans hg98) gn)
            clear hu rn gn hg98
            refine wpG_app _ (some 52) rfl rfl (.tmp 49) (.tmp 51) 42 42 rfl w.heap.size 54 i0 _ 2 16 Try.underlying42 hi0 hz0 hz1 hz2 rfl _ _ _ (own_gr OW55.out (GB101.out.trans (Gr.refl _))) _ 1 [.int .i64 f, .int .i64 t] (fun w2 h2 => src_new Try.underlying42 [.int .i64 f, .int .i64 t] 2 rfl RN100.out (by intro u hu; simp at hu; rcases hu with rfl | rfl <;> rfl) w2 h2 (by simp)) rfl rfl (by simp only [maxLen]; omega) (by omega) (Nat.le_trans G49.out.size (GB101.out.trans (Gr.refl _)).size) (fun v108 W102 W103 hg104 ow107 gb105 wh106 => ?_)
            have HO1Z := Lib.hid ((Chg.of_grown gb105).own (own_gr OW54.out ((GB101.out.trans (Gr.refl _)).trans hg104)) (fun q h1 h2 => HSEP.out q h1 h2))
            have HC109 := Lib.hid (HC56.out.app ((GB101.out.trans (Gr.refl _)).trans hg104) gb105 (fun k hk => .inr (OW55.out.lt k hk).1))
            have hszW102 : V47.heap.size ≤ W102.heap.size := ((GB101.out.trans (Gr.refl _)).trans hg104).size
            obtain ⟨A1, k1, rfl, hle1, hcap1, _⟩ := own_shape ow107
            have OW110 := Lib.hid ow107
            have HWH := Lib.hid wh106
            clear ow107 wh106 gb105
            simp only [Act.put, List.setIfInBounds_toArray, List.set_cons_zero, List.set_cons_succ]
            refine @wpG_tk _ _ _ _ _ (some 6) (.slice A1 (n2 + 1) k1) _ _ rfl (.val (by rfl) (fun _ _ => rfl)) ?_
            simp only [Act.put, List.setIfInBounds_toArray, List.set_cons_zero, List.set_cons_succ]
            refine wpG_done (fun V111 hv112 => ?_)
            have GC113 := Lib.hid hv112
            clear hv112
            go_upto_region 13 with fail
            refine wpG_region ?_
            refine @wpG_tk _ _ _ _ _ (some 53) (.int .i64 ((k : Int) + 1)) _ _ rfl (.val (by rfl) (fun W hg => by (first | (go_simp; done) | (go_simp; rw [IntWalk.i64_in _ (by omega)])))) ?_
            simp only [Act.put, List.setIfInBounds_toArray, List.set_cons_zero, List.set_cons_succ]
            refine @wpG_tk _ _ _ _ _ (some 21) (.int .i64 ((k : Int) + 1)) _ _ rfl (.val (by rfl) (fun _ _ => rfl)) ?_
            simp only [Act.put, List.setIfInBounds_toArray, List.set_cons_zero, List.set_cons_succ]
            refine wpG_done (fun V114 hv115 => ?_)
            have GC116 := Lib.hid (GC113.out.trans hv115)
            clear hv115
            go_wp2_with fail
            go_roundw
            case rel => exact ⟨k + 1, n2 + 1, k1, A1, by go_num, rfl, ⟨by omega, by rw [HRS.out, HPRE.out, Mo.mrg_no HQ.out]; first | done | (rw [HZ.out, List.length_append, List.length_append]; done) | (rw [HZ.out, List.length_append, List.length_append]; rfl), by rw [HRS.out, HPRE.out, Mo.mrg_no HQ.out]; exact own_gr (by have h := OW110.out; rw [HPRE.out] at h; rw [rcs_append _ [(f, t)], rcs_one]; exact h) GC116.out, own_gr HO1Z.out GC116.out, fun g1 hg1 => by rcases HWH.out with h1 | h1; rw [h1]; exact HSEP.out g1 hg1; rw [h1]; intro h2; injection h2 with h2; have h3 := (OW54.out.lt g1 hg1).2; have h4 := hszW102; omega, HC109.out.gr GC116.out⟩⟩
            case measure => first | (simp [intOf]; done) | (simp [intOf]; omega)

end Go.Proofs.Ytmjjkloeipoefaa
