/-
  Contract of the specification: Runs.
-/
import Derived.Test.YtmjjkloeipoefaaMob9
import Derived.Handy
namespace Go.Proofs.Ytmjjkloeipoefaa
open Go.RowKit
set_option linter.unusedVariables false
set_option maxRecDepth 1000000 in
set_option maxHeartbeats 4000000 in
theorem rruns_any (b1 b2 b3 b4 b5 b6 : Int) (w : World) :
    Calls Try.prog 25 #[.agg #[.int .i64 b1, .int .i64 b2, .int .i64 b3, .int .i64 b4, .int .i64 b5, .int .i64 b6]] w (RunsR (Mo.runsA b1 b2 b3 b4 b5 b6) (Mo.cubesE b1 b2 b3 b4 b5 b6) w) := by
  obtain ⟨cl, hcl⟩ : ∃ l, l = Mo.cubesA b1 b2 b3 b4 b5 b6 := ⟨_, rfl⟩
  obtain ⟨ev, hev⟩ : ∃ e, e = Mo.cubesE b1 b2 b3 b4 b5 b6 := ⟨_, rfl⟩
  have hok : ∀ c ∈ cl, Mo.okC c := fun c h => Mo.cubesA_ok (hcl ▸ h)
  have HOK := Lib.hid hok
  have HCL := Lib.hid hcl
  have HEV := Lib.hid hev
  clear hcl hok
  obtain ⟨u, hu, r0, g0⟩ := rows1 w [.int .i64 b1, .int .i64 b2, .int .i64 b3, .int .i64 b4, .int .i64 b5, .int .i64 b6] 37
  have R0 := Lib.hid r0
  have G0 := Lib.hid g0
  have HU := Lib.hid hu
  clear hu g0 r0
  go_enter Try.func25, Try.ntmps25
  go_upto_region 1 with fail
  rw [← HU.out]
  refine wpG_region ?_
  refine @wpG_tk _ _ _ _ _ (some 11) (.agg #[.int .i64 b1, .int .i64 b2, .int .i64 b3, .int .i64 b4, .int .i64 b5, .int .i64 b6]) _ _ rfl (.load_mid (by rfl) 37 (.tmp 1) rfl (w.heap.size) 0 rfl [.int .i64 b1, .int .i64 b2, .int .i64 b3, .int .i64 b4, .int .i64 b5, .int .i64 b6] _ (fun W hg => (R0.out.below hg).range) Try.underlying37 rfl (by kernel_rfl)) ?_
  simp only [Act.put, List.setIfInBounds_toArray, List.set_cons_zero, List.set_cons_succ]
  refine wpG_call (some 12) 23 #[.agg #[.int .i64 b1, .int .i64 b2, .int .i64 b3, .int .i64 b4, .int .i64 b5, .int .i64 b6]] rfl (by rfl) (fun W => by go_simp) (fun W1 hg2 => ?_)
  refine (rcubes_any b1 b2 b3 b4 b5 b6 W1).mono ?_
  rintro e w3 ⟨A, n, c, rfl, hn, own, bel⟩
  refine ⟨_, rfl, ?_⟩
  have hGW := Gr.to G0.out hg2
  have HG9 := Lib.hid (hGW.trans (bel.mono hGW.size))
  rw [← HCL.out] at own hn
  rw [← HEV.out]
  have HO1 := Lib.hid (own_mono own hGW.size)
  have HN := Lib.hid hn
  have hn4 : n ≤ 4096 := by rw [hn, HCL.out]; exact Mo.cubesA_len _ _ _ _ _ _
  clear hn own bel hGW hg2
  simp only [Act.put, List.setIfInBounds_toArray, List.set_cons_zero, List.set_cons_succ]
  refine @wpG_tk _ _ _ _ _ (some 10) (.tuple #[.slice A n c, .int .i64 ev]) _ _ rfl (.val (by rfl) (fun _ _ => rfl)) ?_
  simp only [Act.put, List.setIfInBounds_toArray, List.set_cons_zero, List.set_cons_succ]
  refine @wpG_tk _ _ _ _ _ (some 13) (.slice A n c) _ _ rfl (.val (by rfl) (fun W hg => by go_simp)) ?_
  simp only [Act.put, List.setIfInBounds_toArray, List.set_cons_zero, List.set_cons_succ]
  refine @wpG_tk _ _ _ _ _ (some 14) (.int .i64 ev) _ _ rfl (.val (by rfl) (fun W hg => by go_simp)) ?_
  simp only [Act.put, List.setIfInBounds_toArray, List.set_cons_zero, List.set_cons_succ]
  refine @wpG_tk _ _ _ _ _ (some 4) (.slice A n c) _ _ rfl (.val (by rfl) (fun _ _ => rfl)) ?_
  simp only [Act.put, List.setIfInBounds_toArray, List.set_cons_zero, List.set_cons_succ]
  refine @wpG_tk _ _ _ _ _ (some 5) (.int .i64 ev) _ _ rfl (.val (by rfl) (fun _ _ => rfl)) ?_
  simp only [Act.put, List.setIfInBounds_toArray, List.set_cons_zero, List.set_cons_succ]
  refine wpG_done (fun V4 hv5 => ?_)
  have GC6 := Lib.hid hv5
  clear hv5
  have HEV2 := Lib.hid hev
  clear hev
  go_upto_region 2 with fail
  refine wpG_region ?_
  refine @wpG_tk _ _ _ _ _ (some 6) (.slice none 0 0) _ _ rfl (.val (by rfl) (fun _ _ => rfl)) ?_
  simp only [Act.put, List.setIfInBounds_toArray, List.set_cons_zero, List.set_cons_succ]
  refine wpG_done (fun V7 hv8 => ?_)
  have GC9 := Lib.hid (GC6.out.trans hv8)
  clear hv8
  go_upto_region 3 with fail
  refine wpG_region ?_
  refine @wpG_tk _ _ _ _ _ (some 7) (.int .i64 0) _ _ rfl (.val (by rfl) (fun _ _ => rfl)) ?_
  simp only [Act.put, List.setIfInBounds_toArray, List.set_cons_zero, List.set_cons_succ]
  refine wpG_done (fun V10 hv11 => ?_)
  have GC12 := Lib.hid (GC9.out.trans hv11)
  clear hv11
  have hst0 : RSt w A n c cl 0 none 0 0 w3 := ⟨by omega, rfl, World.ownsRow_nil _ _ _ _, HO1.out, fun g hg => by simp [Value.ownBlock], ⟨HG9.out.os, HG9.out.tape, HG9.out.output, HG9.out.size, fun k hk _ => HG9.out.block k hk⟩⟩
  have HST0 := Lib.hid hst0
  clear hst0
  have hst1 : ∀ V, Gr w3 V → RSt w A n c cl 0 none 0 0 V := fun V g => ⟨by omega, HST0.out.len, own_gr HST0.out.own2 g, own_gr HST0.out.own1 g, HST0.out.sep, HST0.out.bel.gr g⟩
  have HST1 := Lib.hid (hst1 _ GC12.out)
  clear hst1
  go_wp2_with fail
  go_loopw [7, 6] (fun i v wr => ∃ (k n2 c2 : Nat) (A2 : Option Addr), i = .int .i64 (k : Int) ∧ v = .slice A2 n2 c2 ∧ RSt w A n c cl k A2 n2 c2 wr) (fun i _ _ => n - (intOf i).toNat)
  case atStart => exact ⟨0, 0, 0, none, rfl, rfl, HST1.out⟩
  case round =>
      obtain ⟨k, n2, c2, A2, rfl, rfl, hst⟩ := hrel
      have hkn := hst.kn
      have HL2 := Lib.hid hst.len
      have HO2 := Lib.hid hst.own2
      have HO1b := Lib.hid hst.own1
      have HSEP := Lib.hid hst.sep
      have HCB := Lib.hid hst.bel
      have hn2 : n2 ≤ k := by rw [hst.len]; exact Mo.runsF_len cl k (by rw [← HN.out]; exact hkn)
      have HGB := Lib.hid (chg_below hst.bel)
      clear hst
      by_cases hlt : k < n
      rotate_left
      · have hkn2 : k = n := by omega
        clear hlt hkn
        go_upto_region 4 with fail
        refine wpG_region ?_
        refine @wpG_tk _ _ _ _ _ (some 15) (.int .i64 (k : Int)) _ _ rfl (.val (by rfl) (fun _ _ => rfl)) ?_
        simp only [Act.put, List.setIfInBounds_toArray, List.set_cons_zero, List.set_cons_succ]
        refine @wpG_tk _ _ _ _ _ (some 16) (.slice A n c) _ _ rfl (.val (by rfl) (fun _ _ => rfl)) ?_
        simp only [Act.put, List.setIfInBounds_toArray, List.set_cons_zero, List.set_cons_succ]
        refine @wpG_tk _ _ _ _ _ (some 17) (.int .i64 (n : Int)) _ _ rfl (.val (by rfl) (fun W hg => by go_simp)) ?_
        simp only [Act.put, List.setIfInBounds_toArray, List.set_cons_zero, List.set_cons_succ]
        refine @wpG_tk _ _ _ _ _ (some 18) (.bool false) _ _ rfl (.val (by rfl) (fun W hg => by have hq : ¬ ((k : Int) < (n : Int)) := (by omega); first | (go_simp; done) | (go_simp <;> omega))) ?_
        simp only [Act.put, List.setIfInBounds_toArray, List.set_cons_zero, List.set_cons_succ]
        refine wpG_done (fun V13 hv14 => ?_)
        have GC15 := Lib.hid hv14
        clear hv14
        go_upto_region 11 with fail
        refine wpG_region ?_
        refine @wpG_tk _ _ _ _ _ (some 64) (.slice A2 n2 c2) _ _ rfl (.val (by rfl) (fun _ _ => rfl)) ?_
        simp only [Act.put, List.setIfInBounds_toArray, List.set_cons_zero, List.set_cons_succ]
        refine @wpG_tk _ _ _ _ _ (some 65) (.int .i64 ev) _ _ rfl (.val (by rfl) (fun _ _ => rfl)) ?_
        simp only [Act.put, List.setIfInBounds_toArray, List.set_cons_zero, List.set_cons_succ]
        refine @wpG_tk _ _ _ _ _ (some 2) (.slice A2 n2 c2) _ _ rfl (.val (by rfl) (fun _ _ => rfl)) ?_
        simp only [Act.put, List.setIfInBounds_toArray, List.set_cons_zero, List.set_cons_succ]
        refine @wpG_tk _ _ _ _ _ (some 3) (.int .i64 ev) _ _ rfl (.val (by rfl) (fun _ _ => rfl)) ?_
        simp only [Act.put, List.setIfInBounds_toArray, List.set_cons_zero, List.set_cons_succ]
        refine wpG_done (fun V16 hv17 => ?_)
        have GC18 := Lib.hid (GC15.out.trans hv17)
        clear hv17
        go_wp2_with fail
        go_ret2
        have hfin : Mo.runsF (cl.take k) = Mo.runsA b1 b2 b3 b4 b5 b6 := by unfold Mo.runsA; rw [← HCL.out, hkn2, HN.out, List.take_length]
        exact ⟨A2, n2, c2, by rw [← HEV2.out]; rfl, by rw [← hfin]; exact HL2.out, by rw [← hfin]; exact own_gr HO2.out GC18.out, chg_below (HCB.out.gr GC18.out)⟩
      · have hcl : k < cl.length := by rw [← HN.out]; exact hlt
        obtain ⟨e, he⟩ : ∃ e, cl[k]? = some e := ⟨_, List.getElem?_eq_getElem hcl⟩
        obtain ⟨lv, hl1, hl2⟩ := HOK.out e (List.mem_of_getElem? he)
        have hlv := hl2.2.2.2
        have HLV := Lib.hid hl1
        obtain ⟨f, hf⟩ : ∃ f, f = Mo.enc e.1 e.2.1 e.2.2.1 := ⟨_, rfl⟩
        obtain ⟨t, ht⟩ : ∃ t, t = f + Mo.pw (3 * lv) - 1 := ⟨_, rfl⟩
        have hfb : -1 ≤ f ∧ f < 4398046511104 := by rw [hf]; exact Mo.enc_bd _ _ _
        have hp1 := Mo.pw_pos (3 * lv)
        have hp2 := Mo.pw42 hlv
        have hcf : Mo.cf e = f := hf.symm
        have hct : Mo.ct e = t := by rw [ht, hf]; unfold Mo.ct; rw [hl1, Int.toNat_natCast]
        have hrs := Mo.runsF_succ he
        rw [hcf, hct] at hrs
        have HRS := Lib.hid hrs
        have HE := Lib.hid he
        have HF := Lib.hid hf
        have HT := Lib.hid ht
        clear he hl1 hl2 hf ht hcf hct hrs hcl
        obtain ⟨g, rfl⟩ := own_addr HO1.out (by omega)
        go_upto_region 4 with fail
        refine wpG_region ?_
        refine @wpG_tk _ _ _ _ _ (some 15) (.int .i64 (k : Int)) _ _ rfl (.val (by rfl) (fun _ _ => rfl)) ?_
        simp only [Act.put, List.setIfInBounds_toArray, List.set_cons_zero, List.set_cons_succ]
        refine @wpG_tk _ _ _ _ _ (some 16) (.slice (some ⟨g, 0, none⟩) n c) _ _ rfl (.val (by rfl) (fun _ _ => rfl)) ?_
        simp only [Act.put, List.setIfInBounds_toArray, List.set_cons_zero, List.set_cons_succ]
        refine @wpG_tk _ _ _ _ _ (some 17) (.int .i64 (n : Int)) _ _ rfl (.val (by rfl) (fun W hg => by go_simp)) ?_
        simp only [Act.put, List.setIfInBounds_toArray, List.set_cons_zero, List.set_cons_succ]
        refine @wpG_tk _ _ _ _ _ (some 18) (.bool true) _ _ rfl (.val (by rfl) (fun W hg => by have hq : ((k : Int) < (n : Int)) := (by omega); first | (go_simp; done) | (go_simp <;> omega))) ?_
        simp only [Act.put, List.setIfInBounds_toArray, List.set_cons_zero, List.set_cons_succ]
        refine wpG_done (fun V19 hv20 => ?_)
        have GC21 := Lib.hid hv20
        clear hv20
        go_upto_region 6 with fail
        refine wpG_region ?_
        refine @wpG_tk _ _ _ _ _ (some 21) (.slice (some ⟨g, 0, none⟩) n c) _ _ rfl (.val (by rfl) (fun _ _ => rfl)) ?_
        simp only [Act.put, List.setIfInBounds_toArray, List.set_cons_zero, List.set_cons_succ]
        refine @wpG_tk _ _ _ _ _ (some 22) (.int .i64 (k : Int)) _ _ rfl (.val (by rfl) (fun _ _ => rfl)) ?_
        simp only [Act.put, List.setIfInBounds_toArray, List.set_cons_zero, List.set_cons_succ]
        refine @wpG_tk _ _ _ _ _ (some 23) (.pointer (some ⟨g, k * 4, none⟩)) _ _ rfl (.val (by rfl) (fun W hg => by go_simp <;> first | rfl | omega | (simp; omega))) ?_
        simp only [Act.put, List.setIfInBounds_toArray, List.set_cons_zero, List.set_cons_succ]
        refine @wpG_tk _ _ _ _ _ (some 24) (.pointer (some ⟨g, k * 4, none⟩)) _ _ rfl (.val (by rfl) (fun W hg => by go_simp)) ?_
        simp only [Act.put, List.setIfInBounds_toArray, List.set_cons_zero, List.set_cons_succ]
        refine @wpG_tk _ _ _ _ _ (some 25) (.agg #[.int .i64 e.1, .int .i64 e.2.1, .int .i64 e.2.2.1]) _ _ rfl (.load_mid (by rfl) 23 (.tmp 24) rfl g (k * 4) rfl [.int .i64 e.1, .int .i64 e.2.1, .int .i64 e.2.2.1] _ (fun W hg => cube_pt ((own_lies HO1b.out).below (GC21.out.trans hg)) HE.out) Try.underlying23 rfl (by kernel_rfl)) ?_
        simp only [Act.put, List.setIfInBounds_toArray, List.set_cons_zero, List.set_cons_succ]
        refine @wpG_tk _ _ _ _ _ (some 26) (.int .i64 f) _ _ rfl (.call (f := 14) (args := #[.agg #[.int .i64 e.1, .int .i64 e.2.1, .int .i64 e.2.2.1]]) (by rfl) (fun W => by go_simp) (fun W hg => (HF.out ▸ rencode_any e.1 e.2.1 e.2.2.1 W))) ?_
        simp only [Act.put, List.setIfInBounds_toArray, List.set_cons_zero, List.set_cons_succ]
        refine @wpG_tk _ _ _ _ _ (some 8) (.int .i64 f) _ _ rfl (.val (by rfl) (fun _ _ => rfl)) ?_
        simp only [Act.put, List.setIfInBounds_toArray, List.set_cons_zero, List.set_cons_succ]
        refine wpG_done (fun V22 hv23 => ?_)
        have GC24 := Lib.hid (GC21.out.trans hv23)
        clear hv23
        go_upto_region 7 with fail
        refine wpG_region ?_
        refine @wpG_tk _ _ _ _ _ (some 27) (.int .i64 f) _ _ rfl (.val (by rfl) (fun _ _ => rfl)) ?_
        simp only [Act.put, List.setIfInBounds_toArray, List.set_cons_zero, List.set_cons_succ]
        refine @wpG_tk _ _ _ _ _ (some 28) (.slice (some ⟨g, 0, none⟩) n c) _ _ rfl (.val (by rfl) (fun _ _ => rfl)) ?_
        simp only [Act.put, List.setIfInBounds_toArray, List.set_cons_zero, List.set_cons_succ]
        refine @wpG_tk _ _ _ _ _ (some 29) (.int .i64 (k : Int)) _ _ rfl (.val (by rfl) (fun _ _ => rfl)) ?_
        simp only [Act.put, List.setIfInBounds_toArray, List.set_cons_zero, List.set_cons_succ]
        refine @wpG_tk _ _ _ _ _ (some 30) (.pointer (some ⟨g, k * 4, none⟩)) _ _ rfl (.val (by rfl) (fun W hg => by go_simp <;> first | rfl | omega | (simp; omega))) ?_
        simp only [Act.put, List.setIfInBounds_toArray, List.set_cons_zero, List.set_cons_succ]
        refine @wpG_tk _ _ _ _ _ (some 31) (.pointer (some ⟨g, k * 4 + 3, none⟩)) _ _ rfl (.val (by rfl) (fun W hg => by go_simp)) ?_
        simp only [Act.put, List.setIfInBounds_toArray, List.set_cons_zero, List.set_cons_succ]
        refine @wpG_tk _ _ _ _ _ (some 32) (.int .i64 (lv : Int)) _ _ rfl (.val (by rfl) (fun W hg => by have c := (cube_lv ((own_lies HO1b.out).below (GC24.out.trans hg)) HE.out HLV.out); go_simp)) ?_
        simp only [Act.put, List.setIfInBounds_toArray, List.set_cons_zero, List.set_cons_succ]
        refine @wpG_tk _ _ _ _ _ (some 33) (.int .i64 (3 * (lv : Int))) _ _ rfl (.val (by rfl) (fun W hg => by (first | (go_simp; done) | (go_simp; rw [IntWalk.i64_in _ (by omega)])))) ?_
        simp only [Act.put, List.setIfInBounds_toArray, List.set_cons_zero, List.set_cons_succ]
        refine @wpG_tk _ _ _ _ _ (some 34) (.int .i64 (Mo.pw (3 * lv))) _ _ rfl (.val (by rfl) (fun W hg => by go_simp; exact wrap_pw (3 * lv) (by omega))) ?_
        simp only [Act.put, List.setIfInBounds_toArray, List.set_cons_zero, List.set_cons_succ]
        refine @wpG_tk _ _ _ _ _ (some 35) (.int .i64 (f + (Mo.pw (3 * lv)))) _ _ rfl (.val (by rfl) (fun W hg => by (first | (go_simp; done) | (go_simp; rw [IntWalk.i64_in _ (by omega)])))) ?_
        simp only [Act.put, List.setIfInBounds_toArray, List.set_cons_zero, List.set_cons_succ]
        refine @wpG_tk _ _ _ _ _ (some 36) (.int .i64 ((f + (Mo.pw (3 * lv))) - 1)) _ _ rfl (.val (by rfl) (fun W hg => by (first | (go_simp; done) | (go_simp; rw [IntWalk.i64_in _ (by omega)])))) ?_
        simp only [Act.put, List.setIfInBounds_toArray, List.set_cons_zero, List.set_cons_succ]
        refine @wpG_tk _ _ _ _ _ (some 9) (.int .i64 ((f + (Mo.pw (3 * lv))) - 1)) _ _ rfl (.val (by rfl) (fun _ _ => rfl)) ?_
        simp only [Act.put, List.setIfInBounds_toArray, List.set_cons_zero, List.set_cons_succ]
        refine wpG_done (fun V25 hv26 => ?_)
        have GC27 := Lib.hid (GC24.out.trans hv26)
        clear hv26
        rw [← HT.out]
        have hlast := Mo.list_cases (Mo.runsF (cl.take k))
        have hbd := Mo.runsF_take_bd HOK.out k
        by_cases hk0 : k = 0
        · have hnil : Mo.runsF (cl.take k) = [] := by rw [hk0]; rfl
          have hz : n2 = 0 := by omega
          have HZ := Lib.hid hz
          have HNIL := Lib.hid hnil
          clear hnil hbd hlast hz
          go_upto_region 8 with fail
          refine wpG_region ?_
          refine @wpG_tk _ _ _ _ _ (some 37) (.int .i64 (k : Int)) _ _ rfl (.val (by rfl) (fun _ _ => rfl)) ?_
          simp only [Act.put, List.setIfInBounds_toArray, List.set_cons_zero, List.set_cons_succ]
          refine @wpG_tk _ _ _ _ _ (some 38) (.bool false) _ _ rfl (.val (by rfl) (fun W hg => by have hq : ¬ ((k : Int) > 0) := (by omega); first | (go_simp; done) | (go_simp <;> omega))) ?_
          simp only [Act.put, List.setIfInBounds_toArray, List.set_cons_zero, List.set_cons_succ]
          refine @wpG_tk _ _ _ _ _ (some 39) (.bool false) _ _ rfl (.val (by rfl) (fun _ _ => rfl)) ?_
          simp only [Act.put, List.setIfInBounds_toArray, List.set_cons_zero, List.set_cons_succ]
          refine @wpG_tk _ _ _ _ _ (some 40) (undef) _ _ rfl (.no (by rfl)) ?_
          simp only [Act.put, List.setIfInBounds_toArray, List.set_cons_zero, List.set_cons_succ]
          refine @wpG_tk _ _ _ _ _ (some 41) (undef) _ _ rfl (.no (by rfl)) ?_
          simp only [Act.put, List.setIfInBounds_toArray, List.set_cons_zero, List.set_cons_succ]
          refine @wpG_tk _ _ _ _ _ (some 42) (undef) _ _ rfl (.no (by rfl)) ?_
          simp only [Act.put, List.setIfInBounds_toArray, List.set_cons_zero, List.set_cons_succ]
          refine @wpG_tk _ _ _ _ _ (some 43) (undef) _ _ rfl (.no (by rfl)) ?_
          simp only [Act.put, List.setIfInBounds_toArray, List.set_cons_zero, List.set_cons_succ]
          refine @wpG_tk _ _ _ _ _ (some 44) (undef) _ _ rfl (.no (by rfl)) ?_
          simp only [Act.put, List.setIfInBounds_toArray, List.set_cons_zero, List.set_cons_succ]
          refine @wpG_tk _ _ _ _ _ (some 45) (undef) _ _ rfl (.no (by rfl)) ?_
          simp only [Act.put, List.setIfInBounds_toArray, List.set_cons_zero, List.set_cons_succ]
          refine @wpG_tk _ _ _ _ _ (some 46) (undef) _ _ rfl (.no (by rfl)) ?_
          simp only [Act.put, List.setIfInBounds_toArray, List.set_cons_zero, List.set_cons_succ]
          refine @wpG_tk _ _ _ _ _ (some 47) (undef) _ _ rfl (.no (by rfl)) ?_
          simp only [Act.put, List.setIfInBounds_toArray, List.set_cons_zero, List.set_cons_succ]
          refine @wpG_tk _ _ _ _ _ (some 48) (undef) _ _ rfl (.no (by rfl)) ?_
          simp only [Act.put, List.setIfInBounds_toArray, List.set_cons_zero, List.set_cons_succ]
          refine @wpG_tk _ _ _ _ _ (some 49) (undef) _ _ rfl (.no (by rfl)) ?_
          simp only [Act.put, List.setIfInBounds_toArray, List.set_cons_zero, List.set_cons_succ]
          refine @wpG_tk _ _ _ _ _ (some 50) (.bool false) _ _ rfl (.val (by rfl) (fun W hg => by go_simp)) ?_
          simp only [Act.put, List.setIfInBounds_toArray, List.set_cons_zero, List.set_cons_succ]
          refine wpG_done (fun V28 hv29 => ?_)
          have GC30 := Lib.hid (GC27.out.trans hv29)
          clear hv29
          obtain ⟨i0, hi0, hz0, hz1, hz2⟩ := info_parts infoRun
          go_upto_region 10 with fail
          refine wpG_region ?_
          refine @wpG_tk _ _ _ _ _ (some 58) (.slice A2 n2 c2) _ _ rfl (.val (by rfl) (fun _ _ => rfl)) ?_
          simp only [Act.put, List.setIfInBounds_toArray, List.set_cons_zero, List.set_cons_succ]
          refine @wpG_tk _ _ _ _ _ (some 59) (.int .i64 f) _ _ rfl (.val (by rfl) (fun _ _ => rfl)) ?_
          simp only [Act.put, List.setIfInBounds_toArray, List.set_cons_zero, List.set_cons_succ]
          refine @wpG_tk _ _ _ _ _ (some 60) (.int .i64 t) _ _ rfl (.val (by rfl) (fun _ _ => rfl)) ?_
          simp only [Act.put, List.setIfInBounds_toArray, List.set_cons_zero, List.set_cons_succ]
          refine @wpG_tk _ _ _ _ _ (some 61) (.agg #[.int .i64 f, .int .i64 t]) _ _ rfl (.val (by rfl) (fun W hg => by go_simp)) ?_
          simp only [Act.put, List.setIfInBounds_toArray, List.set_cons_zero, List.set_cons_succ]
          refine wpG_val (some 62) rfl (by rfl) (fun W31 hg32 => ⟨.slice (some ⟨W31.heap.size, 0, none⟩) 1 1, W31.alloc (.cells #[.int .i64 f, .int .i64 t] 54), by (go_simp <;> rfl), ?_⟩)
          simp only [Act.put, List.setIfInBounds_toArray, List.set_cons_zero, List.set_cons_succ]
          obtain ⟨U33, hu, rn, gn⟩ : ∃ zw, zw = W31.alloc (.cells #[.int .i64 f, .int .i64 t] 54) ∧ Row W31.heap.size [.int .i64 f, .int .i64 t] zw ∧ Gr W31 zw := ⟨_, rfl, Row.newl W31 [.int .i64 f, .int .i64 t] 54, Gr.al _ _⟩
          rw [← hu]
          have RN34 := Lib.hid rn
          have GB35 := Lib.hid (Gr.trans (GC30.out.trans hg32) gn)
          clear hu rn gn hg32
          refine wpG_app _ (some 63) rfl rfl (.tmp 58) (.tmp 62) 42 42 rfl w.heap.size 54 i0 _ 2 16 Try.underlying42 hi0 hz0 hz1 hz2 rfl _ _ _ (own_gr HO2.out (GB35.out.trans (Gr.refl _))) _ 1 [.int .i64 f, .int .i64 t] (fun w2 h2 => src_new Try.underlying42 [.int .i64 f, .int .i64 t] 2 rfl RN34.out (by intro u hu; simp at hu; rcases hu with rfl | rfl <;> rfl) w2 h2 (by simp)) rfl rfl (by simp only [maxLen]; omega) (by omega) (Nat.le_trans HGB.out.size (GB35.out.trans (Gr.refl _)).size) (fun v42 W36 W37 hg38 ow41 gb39 wh40 => ?_)
          have HO1Z := Lib.hid ((Chg.of_grown gb39).own (own_gr HO1b.out ((GB35.out.trans (Gr.refl _)).trans hg38)) (fun q h1 h2 => HSEP.out q h1 h2))
          have HC43 := Lib.hid (HCB.out.app ((GB35.out.trans (Gr.refl _)).trans hg38) gb39 (fun k hk => .inr (HO2.out.lt k hk).1))
          have hszW36 : wr.heap.size ≤ W36.heap.size := ((GB35.out.trans (Gr.refl _)).trans hg38).size
          obtain ⟨A1, k1, rfl, hle1, hcap1, _⟩ := own_shape ow41
          have OW44 := Lib.hid ow41
          have HWH := Lib.hid wh40
          clear ow41 wh40 gb39
          simp only [Act.put, List.setIfInBounds_toArray, List.set_cons_zero, List.set_cons_succ]
          refine @wpG_tk _ _ _ _ _ (some 6) (.slice A1 (n2 + 1) k1) _ _ rfl (.val (by rfl) (fun _ _ => rfl)) ?_
          simp only [Act.put, List.setIfInBounds_toArray, List.set_cons_zero, List.set_cons_succ]
          refine wpG_done (fun V45 hv46 => ?_)
          have GC47 := Lib.hid hv46
          clear hv46
          go_upto_region 5 with fail
          refine wpG_region ?_
          refine @wpG_tk _ _ _ _ _ (some 19) (.int .i64 (k : Int)) _ _ rfl (.val (by rfl) (fun _ _ => rfl)) ?_
          simp only [Act.put, List.setIfInBounds_toArray, List.set_cons_zero, List.set_cons_succ]
          refine @wpG_tk _ _ _ _ _ (some 20) (.int .i64 ((k : Int) + 1)) _ _ rfl (.val (by rfl) (fun W hg => by (first | (go_simp; done) | (go_simp; rw [IntWalk.i64_in _ (by omega)])))) ?_
          simp only [Act.put, List.setIfInBounds_toArray, List.set_cons_zero, List.set_cons_succ]
          refine @wpG_tk _ _ _ _ _ (some 7) (.int .i64 ((k : Int) + 1)) _ _ rfl (.val (by rfl) (fun _ _ => rfl)) ?_
          simp only [Act.put, List.setIfInBounds_toArray, List.set_cons_zero, List.set_cons_succ]
          refine wpG_done (fun V48 hv49 => ?_)
          have GC50 := Lib.hid (GC47.out.trans hv49)
          clear hv49
          go_wp2_with fail
          go_roundw
          case rel => exact ⟨k + 1, n2 + 1, k1, A1, by go_num, rfl, ⟨by omega, by rw [HRS.out, HNIL.out, Mo.mrg_nil]; first | done | (rw [HZ.out]; done) | (rw [HZ.out]; rfl), by rw [HRS.out, HNIL.out, Mo.mrg_nil]; exact own_gr (by have h := OW44.out; rw [HNIL.out] at h; rw [rcs_one]; exact h) GC50.out, own_gr HO1Z.out GC50.out, fun g1 hg1 => by rcases HWH.out with h1 | h1; rw [h1]; exact HSEP.out g1 hg1; rw [h1]; intro h2; injection h2 with h2; have h3 := (HO1b.out.lt g1 hg1).2; have h4 := hszW36; omega, HC43.out.gr GC50.out⟩⟩
          case measure => first | (simp [intOf]; done) | (simp [intOf]; omega)
        · have hne := Mo.runsF_ne (cl := cl) (k := k) (by omega) (by rw [← HN.out]; exact hkn)
          obtain ⟨pre, a, b, hpre⟩ := hlast.resolve_left hne
          clear hne hlast
          have hz : n2 = pre.length + 1 := by rw [HL2.out, hpre, List.length_append]; rfl
          have hb2 := hbd (a, b) (by rw [hpre]; simp)
          have hb3 : -1 ≤ b ∧ b ≤ 8796093022208 := hb2
          have HPRE := Lib.hid hpre
          have hz1 : 1 ≤ n2 := by omega
          have HZ := Lib.hid hz
          clear hpre hbd hb2 hz
          obtain ⟨g2, rfl⟩ := own_addr HO2.out (by omega)
          have hcell : ∀ V, Gr wr V → V.cell? ⟨g2, (n2 - 1) * 2 + 1, none⟩ = some (.int .i64 b) := fun V hV => by rw [(own_gr HO2.out hV).cellAt _ (by omega), HPRE.out, show n2 - 1 = pre.length by have := HZ.out; omega]; exact rcs_last pre a b
          have HCE := Lib.hid hcell
          clear hcell
          by_cases hq : b + 1 = f
          · have HQ := Lib.hid hq
            go_upto_region 8 with fail
            refine wpG_region ?_
            refine @wpG_tk _ _ _ _ _ (some 37) (.int .i64 (k : Int)) _ _ rfl (.val (by rfl) (fun _ _ => rfl)) ?_
            simp only [Act.put, List.setIfInBounds_toArray, List.set_cons_zero, List.set_cons_succ]
            refine @wpG_tk _ _ _ _ _ (some 38) (.bool true) _ _ rfl (.val (by rfl) (fun W hg => by have hq : ((k : Int) > 0) := (by omega); first | (go_simp; done) | (go_simp <;> omega))) ?_
            simp only [Act.put, List.setIfInBounds_toArray, List.set_cons_zero, List.set_cons_succ]
            refine @wpG_tk _ _ _ _ _ (some 39) (.bool true) _ _ rfl (.val (by rfl) (fun _ _ => rfl)) ?_
            simp only [Act.put, List.setIfInBounds_toArray, List.set_cons_zero, List.set_cons_succ]
            refine @wpG_tk _ _ _ _ _ (some 40) (.slice (some ⟨g2, 0, none⟩) n2 c2) _ _ rfl (.val (by rfl) (fun _ _ => rfl)) ?_
            simp only [Act.put, List.setIfInBounds_toArray, List.set_cons_zero, List.set_cons_succ]
            refine @wpG_tk _ _ _ _ _ (some 41) (.slice (some ⟨g2, 0, none⟩) n2 c2) _ _ rfl (.val (by rfl) (fun _ _ => rfl)) ?_
            simp only [Act.put, List.setIfInBounds_toArray, List.set_cons_zero, List.set_cons_succ]
            refine @wpG_tk _ _ _ _ _ (some 42) (.int .i64 (n2 : Int)) _ _ rfl (.val (by rfl) (fun W hg => by go_simp)) ?_
            simp only [Act.put, List.setIfInBounds_toArray, List.set_cons_zero, List.set_cons_succ]
            refine @wpG_tk _ _ _ _ _ (some 43) (.int .i64 ((n2 : Int) - 1)) _ _ rfl (.val (by rfl) (fun W hg => by (first | (go_simp; done) | (go_simp; rw [IntWalk.i64_in _ (by omega)])))) ?_
            simp only [Act.put, List.setIfInBounds_toArray, List.set_cons_zero, List.set_cons_succ]
            refine @wpG_tk _ _ _ _ _ (some 44) (.pointer (some ⟨g2, (n2 - 1) * 2, none⟩)) _ _ rfl (.val (by rfl) (fun W hg => by go_simp <;> first | rfl | omega | (simp; omega))) ?_
            simp only [Act.put, List.setIfInBounds_toArray, List.set_cons_zero, List.set_cons_succ]
            refine @wpG_tk _ _ _ _ _ (some 45) (.pointer (some ⟨g2, (n2 - 1) * 2 + 1, none⟩)) _ _ rfl (.val (by rfl) (fun W hg => by go_simp)) ?_
            simp only [Act.put, List.setIfInBounds_toArray, List.set_cons_zero, List.set_cons_succ]
            refine @wpG_tk _ _ _ _ _ (some 46) (.int .i64 b) _ _ rfl (.val (by rfl) (fun W hg => by have c := (HCE.out _ (GC27.out.trans hg)); go_simp)) ?_
            simp only [Act.put, List.setIfInBounds_toArray, List.set_cons_zero, List.set_cons_succ]
            refine @wpG_tk _ _ _ _ _ (some 47) (.int .i64 (b + 1)) _ _ rfl (.val (by rfl) (fun W hg => by (first | (go_simp; done) | (go_simp; rw [IntWalk.i64_in _ (by omega)])))) ?_
            simp only [Act.put, List.setIfInBounds_toArray, List.set_cons_zero, List.set_cons_succ]
            refine @wpG_tk _ _ _ _ _ (some 48) (.int .i64 f) _ _ rfl (.val (by rfl) (fun _ _ => rfl)) ?_
            simp only [Act.put, List.setIfInBounds_toArray, List.set_cons_zero, List.set_cons_succ]
            refine @wpG_tk _ _ _ _ _ (some 49) (.bool true) _ _ rfl (.val (by rfl) (fun W hg => by have hq : (b + 1 = f) := (by omega); first | (go_simp; done) | (go_simp <;> omega))) ?_
            simp only [Act.put, List.setIfInBounds_toArray, List.set_cons_zero, List.set_cons_succ]
            refine @wpG_tk _ _ _ _ _ (some 50) (.bool true) _ _ rfl (.val (by rfl) (fun W hg => by go_simp)) ?_
            simp only [Act.put, List.setIfInBounds_toArray, List.set_cons_zero, List.set_cons_succ]
            refine wpG_done (fun V51 hv52 => ?_)
            have GC53 := Lib.hid (GC27.out.trans hv52)
            clear hv52
            go_upto_region 9 with fail
            refine wpG_region ?_
            refine @wpG_tk _ _ _ _ _ (some 51) (.slice (some ⟨g2, 0, none⟩) n2 c2) _ _ rfl (.val (by rfl) (fun _ _ => rfl)) ?_
            simp only [Act.put, List.setIfInBounds_toArray, List.set_cons_zero, List.set_cons_succ]
            refine @wpG_tk _ _ _ _ _ (some 52) (.slice (some ⟨g2, 0, none⟩) n2 c2) _ _ rfl (.val (by rfl) (fun _ _ => rfl)) ?_
            simp only [Act.put, List.setIfInBounds_toArray, List.set_cons_zero, List.set_cons_succ]
            refine @wpG_tk _ _ _ _ _ (some 53) (.int .i64 (n2 : Int)) _ _ rfl (.val (by rfl) (fun W hg => by go_simp)) ?_
            simp only [Act.put, List.setIfInBounds_toArray, List.set_cons_zero, List.set_cons_succ]
            refine @wpG_tk _ _ _ _ _ (some 54) (.int .i64 ((n2 : Int) - 1)) _ _ rfl (.val (by rfl) (fun W hg => by (first | (go_simp; done) | (go_simp; rw [IntWalk.i64_in _ (by omega)])))) ?_
            simp only [Act.put, List.setIfInBounds_toArray, List.set_cons_zero, List.set_cons_succ]
            refine @wpG_tk _ _ _ _ _ (some 55) (.int .i64 t) _ _ rfl (.val (by rfl) (fun _ _ => rfl)) ?_
            simp only [Act.put, List.setIfInBounds_toArray, List.set_cons_zero, List.set_cons_succ]
            refine @wpG_tk _ _ _ _ _ (some 56) (.pointer (some ⟨g2, (n2 - 1) * 2, none⟩)) _ _ rfl (.val (by rfl) (fun W hg => by go_simp <;> first | rfl | omega | (simp; omega))) ?_
            simp only [Act.put, List.setIfInBounds_toArray, List.set_cons_zero, List.set_cons_succ]
            refine @wpG_tk _ _ _ _ _ (some 57) (.pointer (some ⟨g2, (n2 - 1) * 2 + 1, none⟩)) _ _ rfl (.val (by rfl) (fun W hg => by go_simp)) ?_
            simp only [Act.put, List.setIfInBounds_toArray, List.set_cons_zero, List.set_cons_succ]
            refine wpG_store (none) rfl (by rfl) (fun W54 hg55 => ⟨W54.setCell ⟨g2, (n2 - 1) * 2 + 1, none⟩ (.int .i64 t), by have c := HCE.out _ (GC53.out.trans hg55); have c2 := (own_gr HO2.out (GC53.out.trans hg55)).frozenAt ((n2 - 1) * 2 + 1); go_simp, ?_⟩)
            have hso := (own_gr HO2.out (GC53.out.trans hg55)).stored ((n2 - 1) * 2 + 1) (.int .i64 t)
            have HSO := Lib.hid hso.1
            have HCS := Lib.hid (HCB.out.app (GC53.out.trans hg55) hso.2 (fun k hk => .inr ((HO2.out.lt k hk).1)))
            have HO1Z := Lib.hid ((Chg.of_grown hso.2).own (own_gr HO1b.out (GC53.out.trans hg55)) (fun q h1 h2 => HSEP.out q h1 h2))
            clear hso
            simp only [Act.put]
            refine wpG_done (fun V56 hv57 => ?_)
            have GC58 := Lib.hid hv57
            clear hv57
            go_upto_region 5 with fail
            refine wpG_region ?_
            refine @wpG_tk _ _ _ _ _ (some 19) (.int .i64 (k : Int)) _ _ rfl (.val (by rfl) (fun _ _ => rfl)) ?_
            simp only [Act.put, List.setIfInBounds_toArray, List.set_cons_zero, List.set_cons_succ]
            refine @wpG_tk _ _ _ _ _ (some 20) (.int .i64 ((k : Int) + 1)) _ _ rfl (.val (by rfl) (fun W hg => by (first | (go_simp; done) | (go_simp; rw [IntWalk.i64_in _ (by omega)])))) ?_
            simp only [Act.put, List.setIfInBounds_toArray, List.set_cons_zero, List.set_cons_succ]
            refine @wpG_tk _ _ _ _ _ (some 7) (.int .i64 ((k : Int) + 1)) _ _ rfl (.val (by rfl) (fun _ _ => rfl)) ?_
            simp only [Act.put, List.setIfInBounds_toArray, List.set_cons_zero, List.set_cons_succ]
            refine wpG_done (fun V59 hv60 => ?_)
            have GC61 := Lib.hid (GC58.out.trans hv60)
            clear hv60
            go_wp2_with fail
            go_roundw
            case rel => exact ⟨k + 1, n2, c2, (some ⟨g2, 0, none⟩), by go_num, rfl, ⟨by omega, by rw [HRS.out, HPRE.out, Mo.mrg_yes HQ.out, HZ.out, List.length_append]; try rfl, by rw [HRS.out, HPRE.out, Mo.mrg_yes HQ.out]; exact own_gr (by have h := HSO.out; rw [HPRE.out, rcs_set2 _ _ _ _ _ (by have := HZ.out; omega)] at h; exact h) GC61.out, own_gr HO1Z.out GC61.out, HSEP.out, HCS.out.gr GC61.out⟩⟩
            case measure => first | (simp [intOf]; done) | (simp [intOf]; omega)
          · have HQ := Lib.hid hq
            go_upto_region 8 with fail
            refine wpG_region ?_
            refine @wpG_tk _ _ _ _ _ (some 37) (.int .i64 (k : Int)) _ _ rfl (.val (by rfl) (fun _ _ => rfl)) ?_
            simp only [Act.put, List.setIfInBounds_toArray, List.set_cons_zero, List.set_cons_succ]
            refine @wpG_tk _ _ _ _ _ (some 38) (.bool true) _ _ rfl (.val (by rfl) (fun W hg => by have hq : ((k : Int) > 0) := (by omega); first | (go_simp; done) | (go_simp <;> omega))) ?_
            simp only [Act.put, List.setIfInBounds_toArray, List.set_cons_zero, List.set_cons_succ]
            refine @wpG_tk _ _ _ _ _ (some 39) (.bool true) _ _ rfl (.val (by rfl) (fun _ _ => rfl)) ?_
            simp only [Act.put, List.setIfInBounds_toArray, List.set_cons_zero, List.set_cons_succ]
            refine @wpG_tk _ _ _ _ _ (some 40) (.slice (some ⟨g2, 0, none⟩) n2 c2) _ _ rfl (.val (by rfl) (fun _ _ => rfl)) ?_
            simp only [Act.put, List.setIfInBounds_toArray, List.set_cons_zero, List.set_cons_succ]
            refine @wpG_tk _ _ _ _ _ (some 41) (.slice (some ⟨g2, 0, none⟩) n2 c2) _ _ rfl (.val (by rfl) (fun _ _ => rfl)) ?_
            simp only [Act.put, List.setIfInBounds_toArray, List.set_cons_zero, List.set_cons_succ]
            refine @wpG_tk _ _ _ _ _ (some 42) (.int .i64 (n2 : Int)) _ _ rfl (.val (by rfl) (fun W hg => by go_simp)) ?_
            simp only [Act.put, List.setIfInBounds_toArray, List.set_cons_zero, List.set_cons_succ]
            refine @wpG_tk _ _ _ _ _ (some 43) (.int .i64 ((n2 : Int) - 1)) _ _ rfl (.val (by rfl) (fun W hg => by (first | (go_simp; done) | (go_simp; rw [IntWalk.i64_in _ (by omega)])))) ?_
            simp only [Act.put, List.setIfInBounds_toArray, List.set_cons_zero, List.set_cons_succ]
            refine @wpG_tk _ _ _ _ _ (some 44) (.pointer (some ⟨g2, (n2 - 1) * 2, none⟩)) _ _ rfl (.val (by rfl) (fun W hg => by go_simp <;> first | rfl | omega | (simp; omega))) ?_
            simp only [Act.put, List.setIfInBounds_toArray, List.set_cons_zero, List.set_cons_succ]
            refine @wpG_tk _ _ _ _ _ (some 45) (.pointer (some ⟨g2, (n2 - 1) * 2 + 1, none⟩)) _ _ rfl (.val (by rfl) (fun W hg => by go_simp)) ?_
            simp only [Act.put, List.setIfInBounds_toArray, List.set_cons_zero, List.set_cons_succ]
            refine @wpG_tk _ _ _ _ _ (some 46) (.int .i64 b) _ _ rfl (.val (by rfl) (fun W hg => by have c := (HCE.out _ (GC27.out.trans hg)); go_simp)) ?_
            simp only [Act.put, List.setIfInBounds_toArray, List.set_cons_zero, List.set_cons_succ]
            refine @wpG_tk _ _ _ _ _ (some 47) (.int .i64 (b + 1)) _ _ rfl (.val (by rfl) (fun W hg => by (first | (go_simp; done) | (go_simp; rw [IntWalk.i64_in _ (by omega)])))) ?_
            simp only [Act.put, List.setIfInBounds_toArray, List.set_cons_zero, List.set_cons_succ]
            refine @wpG_tk _ _ _ _ _ (some 48) (.int .i64 f) _ _ rfl (.val (by rfl) (fun _ _ => rfl)) ?_
            simp only [Act.put, List.setIfInBounds_toArray, List.set_cons_zero, List.set_cons_succ]
            refine @wpG_tk _ _ _ _ _ (some 49) (.bool false) _ _ rfl (.val (by rfl) (fun W hg => by have hq : ¬ (b + 1 = f) := (by omega); first | (go_simp; done) | (go_simp <;> omega))) ?_
            simp only [Act.put, List.setIfInBounds_toArray, List.set_cons_zero, List.set_cons_succ]
            refine @wpG_tk _ _ _ _ _ (some 50) (.bool false) _ _ rfl (.val (by rfl) (fun W hg => by go_simp)) ?_
            simp only [Act.put, List.setIfInBounds_toArray, List.set_cons_zero, List.set_cons_succ]
            refine wpG_done (fun V62 hv63 => ?_)
            have GC64 := Lib.hid (GC27.out.trans hv63)
            clear hv63
            obtain ⟨i0, hi0, hz0, hz1, hz2⟩ := info_parts infoRun
            go_upto_region 10 with fail
            refine wpG_region ?_
            refine @wpG_tk _ _ _ _ _ (some 58) (.slice (some ⟨g2, 0, none⟩) n2 c2) _ _ rfl (.val (by rfl) (fun _ _ => rfl)) ?_
            simp only [Act.put, List.setIfInBounds_toArray, List.set_cons_zero, List.set_cons_succ]
            refine @wpG_tk _ _ _ _ _ (some 59) (.int .i64 f) _ _ rfl (.val (by rfl) (fun _ _ => rfl)) ?_
            simp only [Act.put, List.setIfInBounds_toArray, List.set_cons_zero, List.set_cons_succ]
            refine @wpG_tk _ _ _ _ _ (some 60) (.int .i64 t) _ _ rfl (.val (by rfl) (fun _ _ => rfl)) ?_
            simp only [Act.put, List.setIfInBounds_toArray, List.set_cons_zero, List.set_cons_succ]
            refine @wpG_tk _ _ _ _ _ (some 61) (.agg #[.int .i64 f, .int .i64 t]) _ _ rfl (.val (by rfl) (fun W hg => by go_simp)) ?_
            simp only [Act.put, List.setIfInBounds_toArray, List.set_cons_zero, List.set_cons_succ]
            refine wpG_val (some 62) rfl (by rfl) (fun W65 hg66 => ⟨.slice (some ⟨W65.heap.size, 0, none⟩) 1 1, W65.alloc (.cells #[.int .i64 f, .int .i64 t] 54), by (go_simp <;> rfl), ?_⟩)
            simp only [Act.put, List.setIfInBounds_toArray, List.set_cons_zero, List.set_cons_succ]
            obtain ⟨U67, hu, rn, gn⟩ : ∃ zw, zw = W65.alloc (.cells #[.int .i64 f, .int .i64 t] 54) ∧ Row W65.heap.size [.int .i64 f, .int .i64 t] zw ∧ Gr W65 zw := ⟨_, rfl, Row.newl W65 [.int .i64 f, .int .i64 t] 54, Gr.al _ _⟩
            rw [← hu]
            have RN68 := Lib.hid rn
            have GB69 := Lib.hid (Gr.trans (GC64.out.trans hg66) gn)
            clear hu rn gn hg66
            refine wpG_app _ (some 63) rfl rfl (.tmp 58) (.tmp 62) 42 42 rfl w.heap.size 54 i0 _ 2 16 Try.underlying42 hi0 hz0 hz1 hz2 rfl _ _ _ (own_gr HO2.out (GB69.out.trans (Gr.refl _))) _ 1 [.int .i64 f, .int .i64 t] (fun w2 h2 => src_new Try.underlying42 [.int .i64 f, .int .i64 t] 2 rfl RN68.out (by intro u hu; simp at hu; rcases hu with rfl | rfl <;> rfl) w2 h2 (by simp)) rfl rfl (by simp only [maxLen]; omega) (by omega) (Nat.le_trans HGB.out.size (GB69.out.trans (Gr.refl _)).size) (fun v76 W70 W71 hg72 ow75 gb73 wh74 => ?_)
            have HO1Z := Lib.hid ((Chg.of_grown gb73).own (own_gr HO1b.out ((GB69.out.trans (Gr.refl _)).trans hg72)) (fun q h1 h2 => HSEP.out q h1 h2))
            have HC77 := Lib.hid (HCB.out.app ((GB69.out.trans (Gr.refl _)).trans hg72) gb73 (fun k hk => .inr (HO2.out.lt k hk).1))
            have hszW70 : wr.heap.size ≤ W70.heap.size := ((GB69.out.trans (Gr.refl _)).trans hg72).size
            obtain ⟨A1, k1, rfl, hle1, hcap1, _⟩ := own_shape ow75
            have OW78 := Lib.hid ow75
            have HWH := Lib.hid wh74
            clear ow75 wh74 gb73
            simp only [Act.put, List.setIfInBounds_toArray, List.set_cons_zero, List.set_cons_succ]
            refine @wpG_tk _ _ _ _ _ (some 6) (.slice A1 (n2 + 1) k1) _ _ rfl (.val (by rfl) (fun _ _ => rfl)) ?_
            simp only [Act.put, List.setIfInBounds_toArray, List.set_cons_zero, List.set_cons_succ]
            refine wpG_done (fun V79 hv80 => ?_)
            have GC81 := Lib.hid hv80
            clear hv80
            go_upto_region 5 with fail
            refine wpG_region ?_
            refine @wpG_tk _ _ _ _ _ (some 19) (.int .i64 (k : Int)) _ _ rfl (.val (by rfl) (fun _ _ => rfl)) ?_
            simp only [Act.put, List.setIfInBounds_toArray, List.set_cons_zero, List.set_cons_succ]
            refine @wpG_tk _ _ _ _ _ (some 20) (.int .i64 ((k : Int) + 1)) _ _ rfl (.val (by rfl) (fun W hg => by (first | (go_simp; done) | (go_simp; rw [IntWalk.i64_in _ (by omega)])))) ?_
            simp only [Act.put, List.setIfInBounds_toArray, List.set_cons_zero, List.set_cons_succ]
            refine @wpG_tk _ _ _ _ _ (some 7) (.int .i64 ((k : Int) + 1)) _ _ rfl (.val (by rfl) (fun _ _ => rfl)) ?_
            simp only [Act.put, List.setIfInBounds_toArray, List.set_cons_zero, List.set_cons_succ]
            refine wpG_done (fun V82 hv83 => ?_)
            have GC84 := Lib.hid (GC81.out.trans hv83)
            clear hv83
            go_wp2_with fail
            go_roundw
            case rel => exact ⟨k + 1, n2 + 1, k1, A1, by go_num, rfl, ⟨by omega, by rw [HRS.out, HPRE.out, Mo.mrg_no HQ.out]; first | done | (rw [HZ.out, List.length_append, List.length_append]; done) | (rw [HZ.out, List.length_append, List.length_append]; rfl), by rw [HRS.out, HPRE.out, Mo.mrg_no HQ.out]; exact own_gr (by have h := OW78.out; rw [HPRE.out] at h; rw [rcs_append _ [(f, t)], rcs_one]; exact h) GC84.out, own_gr HO1Z.out GC84.out, fun g1 hg1 => by rcases HWH.out with h1 | h1; rw [h1]; exact HSEP.out g1 hg1; rw [h1]; intro h2; injection h2 with h2; have h3 := (HO1b.out.lt g1 hg1).2; have h4 := hszW70; omega, HC77.out.gr GC84.out⟩⟩
            case measure => first | (simp [intOf]; done) | (simp [intOf]; omega)

end Go.Proofs.Ytmjjkloeipoefaa
