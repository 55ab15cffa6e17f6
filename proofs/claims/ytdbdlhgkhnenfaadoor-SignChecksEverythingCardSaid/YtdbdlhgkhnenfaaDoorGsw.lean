/-
  Contracts of the specification of package sign: the key that a signature gives.
-/
import Derived.Test.YtdbdlhgkhnenfaaDoorGsv
import Derived.Test.YtdbdlhgkhnenfaaDoorGsg
import Derived.Test.YtdbdlhgkhnenfaaDoorGq
namespace Go.Proofs.YtdbdlhgkhnenfaaDoor
open Go.RowKit

theorem bstr_from (l : List UInt8) (k n : Nat) (h : n = l.length) : (bstr l).extract k n = bstr (l.drop k) := by
  subst h
  apply ByteArray.ext
  have h2 := extract_toList (bstr l) k
  rw [bstr_size] at h2
  apply Array.toList_inj.1
  rw [h2]; rfl

set_option maxRecDepth 1000000 in
set_option maxHeartbeats 2000000 in
theorem rroot_any (p : List UInt8) (h i : Nat) (m r : List UInt8) (w : World) (hp : p.length = 16) (hh : h ≤ 6) (hi9 : i < 64) (hm : m.length ≤ 1000) (hr : 16 * (35 + h) ≤ r.length) (hr2 : r.length ≤ 100000) (hR : TabR w) :
    Calls Tryd.prog 25 #[.agg (p.map bv).toArray, .int .i64 (h : Int), .int .i64 (i : Int), .string (bstr m), .string (bstr r)] w
      fun e w' => e = .returned (.agg ((Sg.root p h i m r).map bv).toArray) ∧ Below w.heap.size w w' := by
  obtain ⟨i0, hi, hz0, hz1, hz2⟩ := info_parts Tryd.infoD3
  have HR := Lib.hid hR
  have HP := Lib.hid hp
  have DP := Lib.hid (D16.of hp)
  have hrs : (bstr r).size = r.length := bstr_size r
  have CM := Lib.hid (fun (W : World) (ht : TabR W) => rmessage_any p (i : Int) m W hp (by omega) hm ht)
  have hml := Sg.message_len p (i : Int) m
  have hdl := Sg.digits_len hml
  have hds := Sg.digits_get_le hml
  have CDG := Lib.hid (fun (W : World) => rdigits_any (Sg.message p (i : Int) m) W hml)
  have hroot : Sg.root p h i m r = Sg.up i (Sg.leafFrom (i : Int) (Sg.cuts r 35) (Sg.digits (Sg.message p (i : Int) m))) ((Sg.cuts r (35 + h)).drop 35) h := rfl
  obtain ⟨ds, hdse⟩ : ∃ x, x = Sg.digits (Sg.message p (i : Int) m) := ⟨_, rfl⟩
  rw [← hdse] at hdl hds CDG hroot
  generalize Sg.message p (i : Int) m = mm at CM CDG
  have HROOT := Lib.hid hroot
  have HDL := Lib.hid hdl
  have HDS := Lib.hid hds
  have DDS := Lib.hid (D35.of hdl)
  obtain ⟨q1, q2, q3, q4⟩ := two_rows w (p.map bv).toArray z16 23 23
  obtain ⟨u, hu⟩ : ∃ x, x = (w.alloc (.cells (p.map bv).toArray 23)).alloc (.cells z16 23) := ⟨_, rfl⟩
  rw [← hu] at q1 q2 q3 q4
  have R1 : Hid (Row w.heap.size (p.map bv) u) := Lib.hid q1
  have R2 : Hid (Row (w.heap.size + 1) (fill16 []) u) := Lib.hid q2
  have B3 := Lib.hid q3
  have HSZ0 := Lib.hid q4
  have HU := Lib.hid hu
  have e35 : (35 : Int) + (h : Int) = ((35 + h : Nat) : Int) := by omega
  clear q1 q2 q3 q4 hu hp hR hml hdl hds hdse hroot e35
  go_enter Tryd.func25, Tryd.ntmps25
  go_upto_region 1 with fail
  rw [← HU.out]
  clear HU
  go_wp2_with (with_reducible refine wpList_load_mid rfl 23 (.tmp 5) rfl w.heap.size 0 rfl (p.map bv) _ R1.out.range Tryd.underlying23 rfl DP.out.I ?_)
  refine (CM.out u (HR.out.below B3.out)).mono ?_
  rintro e w1 ⟨rfl, b1⟩
  have G1 := Lib.hid (show Gr u w1 from b1)
  clear b1 CM
  go_wp2_with fail
  refine (CDG.out w1).mono ?_
  rintro e w2 ⟨rfl, b2⟩
  have G2 := Lib.hid (G1.out.trans (show Gr w1 w2 from b2))
  clear b2 G1 CDG
  go_upto_region 2 with (with_reducible refine wpList_store_new w2 rfl 25 (.tmp 11) (.tmp 22) rfl _ (ds.map nv).toArray rfl rfl DDS.out.J (Eq.trans (b := 35) (by kernel_rfl) DDS.out.Z.symm) DDS.out.O ?_)
  have rd := Row.newl w2 (ds.map nv) 25
  have g3 := G2.out.trans (Gr.al w2 (.cells (ds.map nv).toArray 25))
  have s3 : w.heap.size + 3 ≤ (w2.alloc (.cells (ds.map nv).toArray 25)).heap.size := by have h1 := G2.out.size; have h2 := HSZ0.out; simp; omega
  have s4 : w.heap.size + 2 ≤ w2.heap.size := by have h1 := G2.out.size; have h2 := HSZ0.out; omega
  obtain ⟨gd, hgd⟩ : ∃ x, x = w2.heap.size := ⟨_, rfl⟩
  obtain ⟨V, hV⟩ : ∃ x, x = w2.alloc (.cells (ds.map nv).toArray 25) := ⟨_, rfl⟩
  have hgv : gd < V.heap.size := by rw [hV, hgd]; simp
  rw [← hV] at rd g3 s3 ⊢
  rw [← hgd] at rd s4 ⊢
  obtain ⟨B, hB⟩ : ∃ x, x = V.heap.size := ⟨_, rfl⟩
  have QD := Lib.hid rd
  have Q2 := Lib.hid (R2.out.below g3)
  have QB := Lib.hid (Gr.to B3.out g3)
  clear rd g3 hgd hV G2 R1 R2 B3 HSZ0
  go_wp2_with fail
  go_loopw [12, 13] (fun vl i' wr => ∃ j : Nat, i' = .int .i64 (j : Int) ∧ j ≤ 35 ∧ wr.ownsRow B 23 16 vl j (dcells (Sg.tops (i : Int) (Sg.cuts r 35) ds j)) ∧ Row (w.heap.size + 1) (fill16 []) wr ∧ Row gd (ds.map nv) wr ∧ B ≤ wr.heap.size ∧ Below w.heap.size w wr) (fun _ i' _ => 35 - (intOf i').toNat)
  case atStart => exact ⟨0, rfl, by omega, World.ownsRow_nil _ _ _ _, Q2.out, QD.out, by omega, QB.out⟩
  case round =>
    obtain ⟨j, rfl, hj, hown, h1, h2, hsz, h3⟩ := hrel
    by_cases hlt : j < 35
    · have hts := Sg.tops_succ (i : Int) (Sg.cuts r 35) ds j
      have hvc := Sg.cuts_get r 35 j hlt
      have hvl : ((r.drop (16 * j)).take 16).length = 16 := by rw [List.length_take, List.length_drop]; omega
      have CD := Lib.hid (fun (W : World) => rdigest_any (r.drop (16 * j)) W (by rw [List.length_drop]; omega) (by rw [List.length_drop]; omega))
      rw [hvc] at hts
      have hcn0 : (ds.map nv)[j]? = some (nv (ds.getD j 0)) := by rw [List.getElem?_map, List.getD_eq_getElem?_getD, List.getElem?_eq_getElem (by rw [HDL.out]; exact hlt)]; rfl
      have hdk := HDS.out j
      have e15 : ((ds.getD j 0 + (15 - ds.getD j 0) : Nat) : Int) = 15 := by omega
      generalize (r.drop (16 * j)).take 16 = v at hts hvl CD
      have hcc := fun (W : World) (ht : TabR W) => rclimb_any (i : Int) (j : Int) v (ds.getD j 0) (15 - ds.getD j 0) W hvl ht (by omega) (by omega) (by omega)
      rw [e15] at hcc
      have hyl : (Sg.climb (i : Int) (j : Int) v (ds.getD j 0) (15 - ds.getD j 0)).length = 16 := Sg.climb_len hvl _ _
      generalize Sg.climb (i : Int) (j : Int) v (ds.getD j 0) (15 - ds.getD j 0) = y at hts hcc hyl
      generalize ds.getD j 0 = d at hcc hcn0 hdk e15
      have hcn : (ds.map nv)[j]? = some (.int .i64 (d : Int)) := hcn0
      have CN := Lib.hid (fun (W : World) (hg : Gr wr W) => (h2.below hg j (.int .i64 (d : Int)) hcn).1)
      have hx : (bstr r).extract (16 * j) r.length = bstr (r.drop (16 * j)) := bstr_from r (16 * j) _ rfl
      have h16w : IntKind.i64.wrap (16 * (j : Int)) = 16 * (j : Int) := by simp [IntKind.wrap, IntKind.bits, IntKind.signed]; omega
      have h16p : (0 : Int) ≤ 16 * (j : Int) := by omega
      have h16n : ¬ ((r.length : Int) < 16 * (j : Int)) := by omega
      have h16t : ((16 : Int) * (j : Int)).toNat = 16 * j := by omega
      have CC := Lib.hid hcc
      have HY16 := Lib.hid hyl
      have HTS := Lib.hid hts
      have OW := Lib.hid hown
      have R2 := Lib.hid h1
      have RD := Lib.hid h2
      have B3 := Lib.hid h3
      have HSZ := Lib.hid hsz
      have HGD := Lib.hid (show gd < B by omega)
      clear hts hvc hvl hcn0 hcc hyl hcn h1 h2 h3 hown e15 Q2 QD QB
      go_wp2_with fail
      refine wpK_region (by kernel_rfl) ?_
      refine wpK_ta (i := 0) (some 27) rfl rfl (by kernel_rfl) (fun _ _ _ h => h) (Or.inl ⟨rfl, fun _ => rfl⟩) ?_
      simp only [Act.put, List.setIfInBounds_toArray, List.set_cons_zero, List.set_cons_succ]
      refine wpK_ta (i := 1) (some 28) rfl rfl (by kernel_rfl) (fun _ _ _ h => h) (Or.inl ⟨rfl, fun _ => rfl⟩) ?_
      simp only [Act.put, List.setIfInBounds_toArray, List.set_cons_zero, List.set_cons_succ]
      refine wpK_ta (i := 2) (some 29) rfl rfl (by kernel_rfl) (fun _ _ _ h => h) (Or.inl ⟨rfl, fun _ => rfl⟩) ?_
      simp only [Act.put, List.setIfInBounds_toArray, List.set_cons_zero, List.set_cons_succ]
      refine wpK_ta (i := 3) (some 30) rfl rfl (by kernel_rfl) (fun _ _ _ h => h) (Or.inl ⟨rfl, fun _ => rfl⟩) ?_
      simp only [Act.put, List.setIfInBounds_toArray, List.set_cons_zero, List.set_cons_succ]
      refine wpK_ta (i := 4) (some 31) rfl rfl (by kernel_rfl) (fun _ _ _ h => h) (Or.inl ⟨rfl, fun _ => rfl⟩) ?_
      simp only [Act.put, List.setIfInBounds_toArray, List.set_cons_zero, List.set_cons_succ]
      refine wpK_ta (i := 5) (some 32) (v := .int .i64 (16 * (j : Int))) rfl rfl (by kernel_rfl) (fun _ _ _ h => h) (Or.inl ⟨by rfl, fun W => by go_simp⟩) ?_
      simp only [Act.put, List.setIfInBounds_toArray, List.set_cons_zero, List.set_cons_succ]
      refine wpK_ta (i := 6) (some 33) (v := .string (bstr (r.drop (16 * j)))) rfl rfl (by kernel_rfl) (fun _ _ _ h => h) (Or.inl ⟨by rfl, fun W => by go_simp⟩) ?_
      simp only [Act.put, List.setIfInBounds_toArray, List.set_cons_zero, List.set_cons_succ]
      refine wpK_ta (i := 8) (some 35) rfl rfl (by kernel_rfl) (fun _ _ _ h => h) (Or.inl ⟨rfl, fun _ => rfl⟩) ?_
      simp only [Act.put, List.setIfInBounds_toArray, List.set_cons_zero, List.set_cons_succ]
      refine wpK_ta (i := 9) (some 36) (v := .pointer (some ⟨gd, j, none⟩)) rfl rfl (by kernel_rfl) (fun _ _ _ h => h) (Or.inl ⟨by rfl, fun W => by go_simp⟩) ?_
      simp only [Act.put, List.setIfInBounds_toArray, List.set_cons_zero, List.set_cons_succ]
      refine wpK_tk (i := 10) (some 37) (v := .int .i64 (d : Int)) rfl rfl (by kernel_rfl) (fun _ _ _ h => h) (.val (by rfl) (fun W hg => by have hc := CN.out W hg.un; go_simp)) ?_
      simp only [Act.put, List.setIfInBounds_toArray, List.set_cons_zero, List.set_cons_succ]
      refine wpK_tk (i := 7) (some 34) (v := .agg (v.map bv).toArray) rfl rfl (by kernel_rfl) (fun _ _ _ h => h) (.call (f := 44) (args := #[.string (bstr (r.drop (16 * j)))]) (by rfl) (fun W => by go_simp) (fun W hg => CD.out W)) ?_
      simp only [Act.put, List.setIfInBounds_toArray, List.set_cons_zero, List.set_cons_succ]
      refine wpK_tk (i := 11) (some 38) (v := .agg (y.map bv).toArray) rfl rfl (by kernel_rfl) (fun _ _ _ h => h) (.call (f := 34) (args := #[.int .i64 (i : Int), .int .i64 (j : Int), .agg (v.map bv).toArray, .int .i64 (d : Int), .int .i64 15]) (by rfl) (fun W => by go_simp) (fun W hg => CC.out W (HR.out.below (Gr.to B3.out hg.un)))) ?_
      simp only [Act.put, List.setIfInBounds_toArray, List.set_cons_zero, List.set_cons_succ]
      have hy16 := HY16.out
      refine wpK_val (i := 12) (some 39) rfl rfl (by kernel_rfl) (by rfl) (fun W1 hgW1 => ⟨.slice (some ⟨W1.heap.size, 0, none⟩) 1 1, W1.alloc (.cells (y.map bv).toArray 23), by (go_simp; exact congrArg (fun c => W1.alloc (.cells c 23)) (fold16 y HY16.out rfl)), Gr.al _ _, ?_⟩)
      simp only [Act.put, List.setIfInBounds_toArray, List.set_cons_zero, List.set_cons_succ]
      have l4 := Lies.fresh W1 (y.map bv) 23
      have g4 := hgW1.un.trans (Gr.al W1 (.cells (y.map bv).toArray 23))
      obtain ⟨W4, e4⟩ : ∃ z, z = W1.alloc (.cells (y.map bv).toArray 23) := ⟨_, rfl⟩
      rw [← e4] at l4 g4 ⊢
      have L4 := Lib.hid l4
      have G4 := Lib.hid g4
      clear l4 g4 e4
      refine wpK_append (j := 13) (some 40) rfl rfl (by kernel_rfl) (by rfl) (by rfl) (.tmp 27) (.tmp 39) 49 rfl (B) 23 i0 (.agg z16) 16 16 Tryd.underlying49 hi hz0 hz1 hz2 rfl _ (j) _ (y.map bv) (by rw [List.length_map, HY16.out]) (bvs_one y) (W1.heap.size) rfl rfl (by unfold maxLen; omega) (by omega) (Nat.le_trans HSZ.out G4.out.size) (fun W hg => own_below OW.out (G4.out.trans hg)) (fun W hg => L4.out.below hg) ?_
      intro W5 v6 w6 hgW5 o6 b6
      simp only [Act.put, List.setIfInBounds_toArray, List.set_cons_zero, List.set_cons_succ]
      rw [← dcells_snoc, ← HTS.out] at o6
      have G5 := G4.out.trans hgW5
      have P1 := Lib.hid o6
      have P2 := Lib.hid ((R2.out.below G5).low b6 (by omega))
      have P3 := Lib.hid ((RD.out.below G5).low b6 HGD.out)
      have P4 := Lib.hid ((Gr.to B3.out G5).trans (b6.mono (by omega)))
      have P5 := Lib.hid (Nat.le_trans (Nat.le_trans HSZ.out G5.size) b6.size)
      clear o6 b6 G5 hgW5 hgW1
      refine wpK_ta (i := 14) (some 12) rfl rfl (by kernel_rfl) (fun _ _ _ h => h) (Or.inl ⟨rfl, fun _ => rfl⟩) ?_
      simp only [Act.put, List.setIfInBounds_toArray, List.set_cons_zero, List.set_cons_succ]
      refine wpK_done (by kernel_rfl) (fun W9 hgW9 => ?_) _
      have P1' := own_below P1.out hgW9
      have P2' := Lib.hid (P2.out.below hgW9)
      have P3' := Lib.hid (P3.out.below hgW9)
      have P4' := Lib.hid (Gr.to P4.out hgW9)
      have P5' := Nat.le_trans P5.out hgW9.size
      have P1 := Lib.hid P1'
      clear P1' hgW9
      go_wp2_with fail
      first
        | exact ⟨⟨j + 1, by go_num, by omega, P1.out, P2'.out, P3'.out, P5', P4'.out⟩, by simp [intOf]; omega⟩
        | (go_roundw
           case rel => exact ⟨j + 1, by go_num, by omega, P1.out, P2'.out, P3'.out, P5', P4'.out⟩
           case measure => simp [intOf]; omega)
    · have hj35 : j = 35 := by omega
      subst hj35
      obtain ⟨A, c, rfl, _, _, hli⟩ := own_shape hown
      have h16 := Sg.tops_16 (i := (i : Int)) (ds := ds) (k := 35) (Sg.cuts_16 r 35 (by omega)) (by rw [Sg.cuts_length]; exact Nat.le_refl _)
      have htl := Sg.tops_length (i : Int) (Sg.cuts r 35) ds 35
      have hroot := HROOT.out
      have hlfe : Sg.leafFrom (i : Int) (Sg.cuts r 35) ds = Sg.leaf (Sg.tops (i : Int) (Sg.cuts r 35) ds 35) := rfl
      have hlfl := Sg.leafFrom_len (i : Int) (Sg.cuts r 35) ds
      generalize Sg.leafFrom (i : Int) (Sg.cuts r 35) ds = lf at hroot hlfe hlfl
      generalize Sg.tops (i : Int) (Sg.cuts r 35) ds 35 = T at hli h16 htl hlfe
      have CL := Lib.hid (rleaf_any T A c wr htl h16 hli (HR.out.below h3))
      rw [← hlfe] at CL
      have hbsg : ∀ l, l < h → ((Sg.cuts r (35 + h)).drop 35).getD l [] = (r.drop (16 * (35 + l))).take 16 := fun l hl => by
        rw [List.getD_eq_getElem?_getD, List.getElem?_drop, ← List.getD_eq_getElem?_getD]
        exact Sg.cuts_get r (35 + h) (35 + l) (by omega)
      obtain ⟨bs, hbse⟩ : ∃ x, x = (Sg.cuts r (35 + h)).drop 35 := ⟨_, rfl⟩
      rw [← hbse] at hbsg hroot
      have HBSG := Lib.hid hbsg
      have HRT := Lib.hid hroot
      have HLF := Lib.hid hlfl
      have DLF := Lib.hid (D16.of hlfl)
      have R2 := Lib.hid h1
      have B3 := Lib.hid h3
      clear hown hli h16 htl hroot hlfe hlfl hbsg hbse h1 h2 h3 hj hlt Q2 QD QB HROOT HDL HDS DDS
      go_wp2_with fail
      refine CL.out.mono ?_
      rintro e w4 ⟨rfl, b4⟩
      have G4 := Lib.hid (show Gr wr w4 from b4)
      clear b4 CL
      go_upto_region 8 with (with_reducible refine wpList_store_new w4 rfl 23 (.tmp 14) (.tmp 42) rfl _ (lf.map bv).toArray rfl rfl DLF.out.J (Eq.trans (b := 16) (by kernel_rfl) DLF.out.Z.symm) DLF.out.O ?_)
      have rn := Row.newl w4 (lf.map bv) 23
      have gn0 := G4.out.trans (Gr.al w4 (.cells (lf.map bv).toArray 23))
      have hszw := hsz
      have hgB : w.heap.size + 3 ≤ w4.heap.size := by have := G4.out.size; omega
      obtain ⟨g4, hg4⟩ : ∃ x, x = w4.heap.size := ⟨_, rfl⟩
      obtain ⟨V4, hV4⟩ : ∃ x, x = w4.alloc (.cells (lf.map bv).toArray 23) := ⟨_, rfl⟩
      rw [← hV4] at rn gn0 ⊢
      rw [← hg4] at rn hgB ⊢
      have Y1 := Lib.hid rn
      have Y2 := Lib.hid (R2.out.below gn0)
      have YB := Lib.hid (Gr.to B3.out gn0)
      have HG4 := Lib.hid (show w.heap.size ≤ g4 by omega)
      have HGN := Lib.hid (show w.heap.size + 1 ≠ g4 by omega)
      clear rn gn0 hg4 hV4 R2 B3 G4
      go_wp2_with fail
      go_loopw [15, 16] (fun nq i' wr => ∃ l : Nat, i' = .int .i64 (l : Int) ∧ nq = .int .i64 ((i / 2 ^ l : Nat) : Int) ∧ l ≤ h ∧ Row g4 ((Sg.up i lf bs l).map bv) wr ∧ Row (w.heap.size + 1) (fill16 []) wr ∧ Below w.heap.size w wr) (fun _ i' _ => h - (intOf i').toNat)
      case atStart => exact ⟨0, rfl, by simp, by omega, Y1.out, Y2.out, YB.out⟩
      case round =>
        obtain ⟨l, rfl, rfl, hl, h1, h2, h3⟩ := hrel
        have hxl : (Sg.up i lf bs l).length = 16 := Sg.up_len HLF.out bs l
        obtain ⟨x, hxe⟩ : ∃ x, x = Sg.up i lf bs l := ⟨_, rfl⟩
        rw [← hxe] at h1 hxl
        have HXE := Lib.hid hxe
        have DX := Lib.hid (D16.of hxl)
        have HXL := Lib.hid hxl
        by_cases hlt : l < h
        · have hbl : ((r.drop (16 * (35 + l))).take 16).length = 16 := by rw [List.length_take, List.length_drop]; omega
          have CD := Lib.hid (fun (W : World) => rdigest_any (r.drop (16 * (35 + l))) W (by rw [List.length_drop]; omega) (by rw [List.length_drop]; omega))
          have hbe := HBSG.out l hlt
          rw [← hbe] at CD hbl
          obtain ⟨b, hb2⟩ : ∃ b, b = bs.getD l [] := ⟨_, rfl⟩
          rw [← hb2] at CD hbl
          have HBE := Lib.hid hb2
          have HBLN := Lib.hid hbl
          have DB := Lib.hid (D16.of hbl)
          have hx : (bstr r).extract (16 * (35 + l)) r.length = bstr (r.drop (16 * (35 + l))) := bstr_from r _ _ rfl
          have h16t : ((16 : Int) * (35 + (l : Int))).toNat = 16 * (35 + l) := by omega
          obtain ⟨q, hqe⟩ : ∃ q, q = i / 2 ^ l := ⟨_, rfl⟩
          obtain ⟨p2, hpe⟩ : ∃ p2, p2 = i / 2 ^ (l + 1) := ⟨_, rfl⟩
          have hpq : p2 = q / 2 := by rw [hpe, hqe, Nat.pow_succ, Nat.div_div_eq_div_mul]
          have hqn : q < 64 := by rw [hqe]; exact Nat.lt_of_le_of_lt (Nat.div_le_self _ _) hi9
          rw [← hqe]
          have HQE := Lib.hid hqe
          have HPE := Lib.hid hpe
          have hpq2 : (q : Int) / 2 = (p2 : Int) := by omega
          have hpb : p2 ≤ 1000 := by omega
          have R1 := Lib.hid h1
          have R2 := Lib.hid h2
          have B3 := Lib.hid h3
          clear hxe hxl hbl hbe hb2 hqe hpe hpq h1 h2 h3 Y1 Y2 YB
          go_wp2_with fail
          refine (CD.out wr).mono ?_
          rintro e w3 ⟨rfl, b3⟩
          have G3 := Lib.hid (show Gr wr w3 from b3)
          clear b3 CD
          go_upto_region 13 with (with_reducible refine wpList_store_new w3 rfl 23 (.tmp 17) (.tmp 54) rfl _ (b.map bv).toArray rfl rfl DB.out.J (Eq.trans (b := 16) (by kernel_rfl) DB.out.Z.symm) DB.out.O ?_)
          have rn := Row.newl w3 (b.map bv) 23
          have gn1 := G3.out.trans (Gr.al w3 (.cells (b.map bv).toArray 23))
          obtain ⟨gn, hgn⟩ : ∃ x, x = w3.heap.size := ⟨_, rfl⟩
          obtain ⟨V, hV⟩ : ∃ x, x = w3.alloc (.cells (b.map bv).toArray 23) := ⟨_, rfl⟩
          rw [← hV] at rn gn1 ⊢
          rw [← hgn] at rn ⊢
          have ZN := Lib.hid rn
          have Z1 := Lib.hid (R1.out.below gn1)
          have Z2 := Lib.hid (R2.out.below gn1)
          have ZB := Lib.hid (Gr.to B3.out gn1)
          have hl8 : (0 : Int) ≤ (l : Int) + 1 := by omega
          clear rn gn1 hgn hV R1 R2 B3 G3
          by_cases hbit : q % 2 = 1
          · have hq : q % 2 = 1 := by omega
            have hqi : (q : Int) % 2 = 1 := by omega
            have hst : Sg.up i lf bs (l + 1) = Sg.node ((l : Int) + 1) ((p2 : Nat) : Int) b x := by
              show Sg.upOne i l (Sg.up i lf bs l) (bs.getD l []) = _
              unfold Sg.upOne
              rw [← HXE.out, ← HBE.out, ← HQE.out, ← HPE.out, hq]
              rfl
            obtain ⟨y, hy⟩ : ∃ y, y = Sg.up i lf bs (l + 1) := ⟨_, rfl⟩
            have hyl : y.length = 16 := by rw [hy]; exact Sg.up_len HLF.out bs (l + 1)
            have CJ := Lib.hid (fun (W : World) (ht : TabR W) => rnode_any ((l : Int) + 1) ((p2 : Nat) : Int) b x W HBLN.out HXL.out ht (by omega) (by omega))
            rw [← hst, ← hy] at CJ
            have DY := Lib.hid (D16.of hyl)
            have HY := Lib.hid hy
            clear hst hy hyl
            go_wp2_with (first | (with_reducible refine wpList_load_mid rfl 23 (.tmp 17) rfl gn 0 rfl (b.map bv) _ ZN.out.range Tryd.underlying23 rfl DB.out.I ?_) | (with_reducible refine wpList_load_mid rfl 23 (.tmp 14) rfl g4 0 rfl (x.map bv) _ Z1.out.range Tryd.underlying23 rfl DX.out.I ?_))
            refine (CJ.out V (HR.out.below ZB.out)).mono ?_
            rintro e w5 ⟨rfl, b5⟩
            have r1 := (Z1.out.below b5).over (D := y.map bv) (by rw [DX.out.len, DY.out.len])
            have r2 := (Z2.out.below b5).far (b := g4) HGN.out 0 (y.map bv)
            have r3 := below_setCells (b := g4) HG4.out (y.map bv) 0 w w5 (Gr.to ZB.out b5)
            have T5 := Lib.hid ((Z1.out.below b5).there 0 (y.map bv).toArray.size (by rw [DY.out.Z, DX.out.len]; decide))
            have P1 := Lib.hid r1
            have P2 := Lib.hid r2
            have P3 := Lib.hid r3
            clear r1 r2 r3 b5 Z1 Z2 ZN ZB CJ
            go_wp2_with (with_reducible refine wpList_store_mid rfl 23 (.tmp 14) (.tmp 64) rfl g4 0 (y.map bv).toArray rfl rfl T5.out DY.out.J DY.out.O ?_)
            first
              | exact ⟨⟨l + 1, by go_num, by rw [← HPE.out], by omega, by rw [← HY.out]; exact P1.out, P2.out, P3.out⟩, by simp [intOf]; omega⟩
              | (go_roundw
                 case rel => exact ⟨l + 1, by go_num, by rw [← HPE.out], by omega, by rw [← HY.out]; exact P1.out, P2.out, P3.out⟩
                 case measure => simp [intOf]; omega)
          · have hq : q % 2 = 0 := by omega
            have hqi : (q : Int) % 2 = 0 := by omega
            have hst : Sg.up i lf bs (l + 1) = Sg.node ((l : Int) + 1) ((p2 : Nat) : Int) x b := by
              show Sg.upOne i l (Sg.up i lf bs l) (bs.getD l []) = _
              unfold Sg.upOne
              rw [← HXE.out, ← HBE.out, ← HQE.out, ← HPE.out, hq]
              rfl
            obtain ⟨y, hy⟩ : ∃ y, y = Sg.up i lf bs (l + 1) := ⟨_, rfl⟩
            have hyl : y.length = 16 := by rw [hy]; exact Sg.up_len HLF.out bs (l + 1)
            have CJ := Lib.hid (fun (W : World) (ht : TabR W) => rnode_any ((l : Int) + 1) ((p2 : Nat) : Int) x b W HXL.out HBLN.out ht (by omega) (by omega))
            rw [← hst, ← hy] at CJ
            have DY := Lib.hid (D16.of hyl)
            have HY := Lib.hid hy
            clear hst hy hyl
            go_wp2_with (first | (with_reducible refine wpList_load_mid rfl 23 (.tmp 17) rfl gn 0 rfl (b.map bv) _ ZN.out.range Tryd.underlying23 rfl DB.out.I ?_) | (with_reducible refine wpList_load_mid rfl 23 (.tmp 14) rfl g4 0 rfl (x.map bv) _ Z1.out.range Tryd.underlying23 rfl DX.out.I ?_))
            refine (CJ.out V (HR.out.below ZB.out)).mono ?_
            rintro e w5 ⟨rfl, b5⟩
            have r1 := (Z1.out.below b5).over (D := y.map bv) (by rw [DX.out.len, DY.out.len])
            have r2 := (Z2.out.below b5).far (b := g4) HGN.out 0 (y.map bv)
            have r3 := below_setCells (b := g4) HG4.out (y.map bv) 0 w w5 (Gr.to ZB.out b5)
            have T5 := Lib.hid ((Z1.out.below b5).there 0 (y.map bv).toArray.size (by rw [DY.out.Z, DX.out.len]; decide))
            have P1 := Lib.hid r1
            have P2 := Lib.hid r2
            have P3 := Lib.hid r3
            clear r1 r2 r3 b5 Z1 Z2 ZN ZB CJ
            go_wp2_with (with_reducible refine wpList_store_mid rfl 23 (.tmp 14) (.tmp 71) rfl g4 0 (y.map bv).toArray rfl rfl T5.out DY.out.J DY.out.O ?_)
            first
              | exact ⟨⟨l + 1, by go_num, by rw [← HPE.out], by omega, by rw [← HY.out]; exact P1.out, P2.out, P3.out⟩, by simp [intOf]; omega⟩
              | (go_roundw
                 case rel => exact ⟨l + 1, by go_num, by rw [← HPE.out], by omega, by rw [← HY.out]; exact P1.out, P2.out, P3.out⟩
                 case measure => simp [intOf]; omega)
        · have hlh : l = h := by omega
          subst hlh
          have R1 := Lib.hid h1.range
          have T1 := Lib.hid (h2.there 0 (x.map bv).toArray.size (by rw [DX.out.Z, z16_len]; decide))
          have B9 := Lib.hid h3
          clear h1 h2 h3 Y1 Y2 YB
          go_wp2_with (first | (with_reducible refine wpList_load_mid rfl 23 (.tmp 14) rfl g4 0 rfl (x.map bv) _ R1.out Tryd.underlying23 rfl DX.out.I ?_) | (with_reducible refine wpList_store_mid rfl 23 (.tmp 10) (.tmp 74) rfl (w.heap.size + 1) 0 (x.map bv).toArray rfl rfl T1.out DX.out.J DX.out.O ?_))
          have HRR := Lib.hid (World.rangeAt_setCells_same wr (w.heap.size + 1) 0 (x.map bv).toArray.toList (by simpa using T1.out))
          refine bodyPost_ret (results_cell_mid rfl _ _ _ (w.heap.size + 1) 0 (x.map bv) _ rfl HRR.out Tryd.underlying23 rfl DX.out.I) rfl ?_
          exact ⟨by rw [HRT.out, HXE.out], below_setCells (by omega) _ 0 _ _ B9.out⟩
end Go.Proofs.YtdbdlhgkhnenfaaDoor
