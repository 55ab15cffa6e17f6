/-
  Contracts of package sign: a signature is checked.
-/
import Derived.Test.YtdbdlhgkhnenfaaDoorGsw
import Derived.Test.YtdbdlhgkhnenfaaDoorGsr
import Derived.Test.YtdbdlhgkhnenfaaDoorGsh
import Derived.Test.YtdbdlhgkhnenfaaDoorGsi
import Derived.Lib.ConvBytes
namespace Go.Proofs.YtdbdlhgkhnenfaaDoor
open Go.RowKit

/-- the verdict as a value -/
def verV (R : Int × Int) : Value := .tuple #[.int .i64 R.1, .int .i64 R.2]
theorem ver_a {p m s : List UInt8} {h : Int} (hh : ¬ (0 ≤ h ∧ h ≤ 6)) : Sg.verify p h m s = (0, 1) := by unfold Sg.verify; rw [if_pos (by omega)]
theorem ver_b {p m s : List UInt8} {h : Int} (hh : 0 ≤ h ∧ h ≤ 6) (he : (Wm.getI s).2.2 ≠ 0) : Sg.verify p h m s = (0, (Wm.getI s).2.2) := by
  unfold Sg.verify; rw [if_neg (by omega), if_pos he]
theorem ver_c {p m s : List UInt8} {h : Int} (hh : 0 ≤ h ∧ h ≤ 6) (he : (Wm.getI s).2.2 = 0) (hx : ¬ (0 ≤ (Wm.getI s).1 ∧ (Wm.getI s).1 < cnt h)) : Sg.verify p h m s = (0, 8) := by
  rw [cnt_in hh] at hx
  unfold Sg.verify; rw [if_neg (by omega), if_neg (by simp [he]), if_pos (by omega)]
theorem ver_d {p m s : List UInt8} {h : Int} (hh : 0 ≤ h ∧ h ≤ 6) (he : (Wm.getI s).2.2 = 0) (hx : 0 ≤ (Wm.getI s).1 ∧ (Wm.getI s).1 < cnt h) (hl : (s.length : Int) < siz h (Wm.getI s).1) : Sg.verify p h m s = (0, 5) := by
  rw [siz_in hx] at hl
  rw [cnt_in hh] at hx
  unfold Sg.verify; rw [if_neg (by omega), if_neg (by simp [he]), if_neg (by omega), if_pos (by omega)]
theorem ver_e {p m s : List UInt8} {h : Int} (hh : 0 ≤ h ∧ h ≤ 6) (he : (Wm.getI s).2.2 = 0) (hx : 0 ≤ (Wm.getI s).1 ∧ (Wm.getI s).1 < cnt h) (hl : siz h (Wm.getI s).1 < (s.length : Int)) : Sg.verify p h m s = (0, 6) := by
  rw [siz_in hx] at hl
  rw [cnt_in hh] at hx
  unfold Sg.verify; rw [if_neg (by omega), if_neg (by simp [he]), if_neg (by omega), if_neg (by omega), if_pos (by omega)]
theorem ver_f {p m s : List UInt8} {h : Int} (hh : 0 ≤ h ∧ h ≤ 6) (he : (Wm.getI s).2.2 = 0) (hx : 0 ≤ (Wm.getI s).1 ∧ (Wm.getI s).1 < cnt h) (hl : (s.length : Int) = siz h (Wm.getI s).1) :
    Sg.verify p h m s = if Sg.root p h.toNat (Wm.getI s).1.toNat m (s.drop (Wm.getI s).2.1) = p then ((Wm.getI s).1, 0) else (0, 8) := by
  rw [siz_in hx] at hl
  rw [cnt_in hh] at hx
  unfold Sg.verify; rw [if_neg (by omega), if_neg (by simp [he]), if_neg (by omega), if_neg (by omega), if_neg (by omega)]
theorem getI_len {s : List UInt8} (he : (Wm.getI s).2.2 = 0) : (Wm.encI (Wm.getI s).1).length = (Wm.getI s).2.1 := by
  obtain ⟨n, tail, _, e, _, _⟩ := Wm.getI_ok he
  rw [e]

set_option maxRecDepth 1000000 in
set_option maxHeartbeats 4000000 in
theorem verify_any (p : List UInt8) (h : Int) (m s : List UInt8) (w : World) (hp : p.length = 16) (hm : m.length ≤ 1000) (hs : s.length ≤ 100000) (hT : Tab w) :
    Calls Tryd.prog 22 #[.agg (p.map bv).toArray, .int .i64 h, .string (bstr m), .string (bstr s)] w
      fun e w' => e = .returned (verV (Sg.verify p h m s)) ∧ Below w.heap.size w w' := by
  have hsz : (bstr s).size = s.length := bstr_size s
  have BX := Lib.hid (Row.newl w (p.map bv) 23)
  have g0 := Gr.al w (.cells (p.map bv).toArray 23)
  obtain ⟨u, hu⟩ : ∃ x, x = w.alloc (.cells (p.map bv).toArray 23) := ⟨_, rfl⟩
  have HUS := Lib.hid (show u.heap.size = w.heap.size + 1 by rw [hu]; simp)
  rw [← hu] at BX g0
  have B0 : Hid (Below w.heap.size w u) := Lib.hid g0
  have HU := Lib.hid hu
  clear hu g0
  by_cases hh : 0 ≤ h ∧ h ≤ 6
  case neg =>
    rw [ver_a hh]
    unfold verV
    have CP := Lib.hid (fun W => permitted_any h W)
    rw [decide_eq_false hh] at CP
    clear hh hp hm hs hT
    go_enter Tryd.func22, Tryd.ntmps22
    go_upto_region 1 with fail
    rw [← HU.out]
    clear HU
    go_wp2_with fail
    refine (CP.out u).mono ?_
    rintro e w1 ⟨rfl, rfl⟩
    go_wp2_with fail
    go_ret2
    exact ⟨rfl, B0.out⟩
  have kc := conv_bytes
  have CG := Lib.hid (fun (W : World) => getInt_any s (some ⟨W.heap.size, 0, none⟩) s.length (grownCap W s.length 0 5) (Lib.bytesWorld W 5 (bstr s)) rfl (by omega) (bytesWorld_lies W s))
  have hb := Wm.getI_bd (l := s)
  have hu1 := Wm.getI_used (l := s)
  have hcb := cnt_bd h
  have hcp := (cnt_pos h).2 hh
  have CP := Lib.hid (fun W => permitted_any h W)
  rw [decide_eq_true hh] at CP
  by_cases he : (Wm.getI s).2.2 = 0
  case neg =>
    rw [ver_b hh he]
    unfold verV
    generalize Wm.getI s = T at *
    obtain ⟨idx, used, er⟩ := T
    simp only at *
    have hne : (er != 0) = true := by simpa using he
    clear hh hp hm hs hT hb hu1 he
    go_enter Tryd.func22, Tryd.ntmps22
    go_upto_region 1 with fail
    rw [← HU.out]
    clear HU
    go_wp2_with fail
    refine (CP.out u).mono ?_
    rintro e w1 ⟨rfl, rfl⟩
    go_wp2_with fail
    refine (CG.out w1).mono ?_
    rintro e w2 ⟨rfl, hw2⟩
    have G2 := Lib.hid (show Gr w1 w2 by rw [← hw2]; exact bytesWorld_below w1 (bstr s))
    have B2 := Lib.hid (Gr.to B0.out G2.out)
    clear hw2
    go_wp2_with fail
    go_ret2
    exact ⟨rfl, B2.out⟩
  have hgl := getI_len he
  have CS := Lib.hid (fun (W : World) => size_any h (Wm.getI s).1 W hb)
  have CE := Lib.hid (fun (W : World) => exists_any h (Wm.getI s).1 W)
  by_cases hx : 0 ≤ (Wm.getI s).1 ∧ (Wm.getI s).1 < cnt h
  case neg =>
    rw [ver_c hh he hx]
    unfold verV
    rw [decide_eq_false hx] at CE
    rw [siz_out hx] at CS
    generalize Wm.getI s = T at *
    obtain ⟨idx, used, er⟩ := T
    simp only at *
    subst he
    clear hh hp hm hs hT hx hgl
    generalize cnt h = cc at *
    go_enter Tryd.func22, Tryd.ntmps22
    go_upto_region 1 with fail
    rw [← HU.out]
    clear HU
    go_wp2_with fail
    refine (CP.out u).mono ?_
    rintro e w1 ⟨rfl, rfl⟩
    go_wp2_with fail
    refine (CG.out w1).mono ?_
    rintro e w2 ⟨rfl, hw2⟩
    have G2 := Lib.hid (show Gr w1 w2 by rw [← hw2]; exact bytesWorld_below w1 (bstr s))
    have B2 := Lib.hid (Gr.to B0.out G2.out)
    clear hw2
    go_wp2_with fail
    refine (CS.out w2).mono ?_
    rintro e w3 ⟨rfl, b3⟩
    have B3 := Lib.hid (Gr.to B2.out b3)
    have G3 := Lib.hid (G2.out.trans (show Gr w2 w3 from b3))
    clear b3
    go_wp2_with fail
    refine (CE.out w3).mono ?_
    rintro e w4 ⟨rfl, rfl⟩
    go_wp2_with fail
    go_ret2
    exact ⟨rfl, B3.out⟩
  have hzz := siz_in hx
  rw [decide_eq_true hx] at CE
  by_cases hlD : (s.length : Int) < siz h (Wm.getI s).1
  · rw [ver_d hh he hx hlD]
    unfold verV
    generalize Wm.getI s = T at *
    obtain ⟨idx, used, er⟩ := T
    simp only at *
    subst he
    generalize siz h idx = zz at *
    clear hh hp hm hs hT hgl hzz
    obtain ⟨hx1, hx2⟩ := hx
    have hx0 : ¬ (idx < 0) := by omega
    generalize cnt h = cc at *
    go_enter Tryd.func22, Tryd.ntmps22
    go_upto_region 1 with fail
    rw [← HU.out]
    clear HU
    go_wp2_with fail
    refine (CP.out u).mono ?_
    rintro e w1 ⟨rfl, rfl⟩
    go_wp2_with fail
    refine (CG.out w1).mono ?_
    rintro e w2 ⟨rfl, hw2⟩
    have G2 := Lib.hid (show Gr w1 w2 by rw [← hw2]; exact bytesWorld_below w1 (bstr s))
    have B2 := Lib.hid (Gr.to B0.out G2.out)
    clear hw2
    go_wp2_with fail
    refine (CS.out w2).mono ?_
    rintro e w3 ⟨rfl, b3⟩
    have B3 := Lib.hid (Gr.to B2.out b3)
    have G3 := Lib.hid (G2.out.trans (show Gr w2 w3 from b3))
    clear b3
    go_wp2_with fail
    refine (CE.out w3).mono ?_
    rintro e w4 ⟨rfl, rfl⟩
    go_wp2_with fail
    go_ret2
    exact ⟨rfl, B3.out⟩
  by_cases hlE : siz h (Wm.getI s).1 < (s.length : Int)
  · rw [ver_e hh he hx hlE]
    unfold verV
    generalize Wm.getI s = T at *
    obtain ⟨idx, used, er⟩ := T
    simp only at *
    subst he
    generalize siz h idx = zz at *
    clear hh hp hm hs hT hgl hzz
    obtain ⟨hx1, hx2⟩ := hx
    have hx0 : ¬ (idx < 0) := by omega
    generalize cnt h = cc at *
    go_enter Tryd.func22, Tryd.ntmps22
    go_upto_region 1 with fail
    rw [← HU.out]
    clear HU
    go_wp2_with fail
    refine (CP.out u).mono ?_
    rintro e w1 ⟨rfl, rfl⟩
    go_wp2_with fail
    refine (CG.out w1).mono ?_
    rintro e w2 ⟨rfl, hw2⟩
    have G2 := Lib.hid (show Gr w1 w2 by rw [← hw2]; exact bytesWorld_below w1 (bstr s))
    have B2 := Lib.hid (Gr.to B0.out G2.out)
    clear hw2
    go_wp2_with fail
    refine (CS.out w2).mono ?_
    rintro e w3 ⟨rfl, b3⟩
    have B3 := Lib.hid (Gr.to B2.out b3)
    have G3 := Lib.hid (G2.out.trans (show Gr w2 w3 from b3))
    clear b3
    go_wp2_with fail
    refine (CE.out w3).mono ?_
    rintro e w4 ⟨rfl, rfl⟩
    go_wp2_with fail
    go_ret2
    exact ⟨rfl, B3.out⟩
  have hlF : (s.length : Int) = siz h (Wm.getI s).1 := by omega
  rw [ver_f hh he hx hlF]
  obtain ⟨hn, rfl⟩ := Int.eq_ofNat_of_zero_le hh.1
  rw [hzz] at hlF
  generalize Wm.getI s = T at *
  obtain ⟨idx, used, er⟩ := T
  simp only at *
  subst he
  obtain ⟨i, rfl⟩ := Int.eq_ofNat_of_zero_le hx.1
  rw [Int.toNat_natCast, Int.toNat_natCast]
  have hi64 : i < 64 := by omega
  have hn6 : hn ≤ 6 := by omega
  have hrl : (s.drop used).length = 16 * (35 + hn) := by rw [List.length_drop]; omega
  have hx2 : (bstr s).extract used s.length = bstr (s.drop used) := bstr_from s used _ rfl
  obtain ⟨r, hr⟩ : ∃ r, r = s.drop used := ⟨_, rfl⟩
  rw [← hr] at hrl hx2 ⊢
  have CSP := Lib.hid (fun (W : World) => split_any r (35 + hn) W hrl (by omega))
  have CM := Lib.hid (fun (W : World) (ht : Tab W) => message_any p (i : Int) m W hp (by omega) hm ht)
  have hml := Sg.message_len p (i : Int) m
  have hdl := Sg.digits_len hml
  have hds := Sg.digits_get_le hml
  have CDG := Lib.hid (fun (W : World) => digits_any (Sg.message p (i : Int) m) W hml)
  have hroot : Sg.root p hn i m r = Sg.up i (Sg.leafFrom (i : Int) (Sg.cuts r 35) (Sg.digits (Sg.message p (i : Int) m))) ((Sg.cuts r (35 + hn)).drop 35) hn := rfl
  obtain ⟨ds, hdse⟩ : ∃ x, x = Sg.digits (Sg.message p (i : Int) m) := ⟨_, rfl⟩
  rw [← hdse] at hdl hds CDG hroot
  generalize Sg.message p (i : Int) m = mm at CM CDG
  have hc16 := Sg.cuts_16 r (35 + hn) (by omega)
  have hcl := Sg.cuts_length r (35 + hn)
  have hv16 := Sg.cuts_16 r 35 (by omega)
  have hvl := Sg.cuts_length r 35
  have CLF := Lib.hid (fun (W : World) (ht : Tab W) => leafOf_any (i : Int) (Sg.cuts r 35) ds W hv16 hvl hdl hds (by omega) ht)
  have hlfl := Sg.leafFrom_len (i : Int) (Sg.cuts r 35) ds
  have hct : (Sg.cuts r (35 + hn)).take 35 = Sg.cuts r 35 := by
    unfold Sg.cuts
    rw [← List.map_take, List.take_range, Nat.min_eq_left (by omega)]
  have DVS := Lib.hid (D560.of hv16 hvl)
  generalize Sg.leafFrom (i : Int) (Sg.cuts r 35) ds = lf at CLF hlfl hroot
  have hb16 : Is16 ((Sg.cuts r (35 + hn)).drop 35) := fun d hd => hc16 d (List.mem_of_mem_drop hd)
  have hbl : ((Sg.cuts r (35 + hn)).drop 35).length = hn := by rw [List.length_drop, hcl]; omega
  have CRA0 := fun (A : Option Addr) (c : Nat) (W : World) (hl : Lies W A (dcells ((Sg.cuts r (35 + hn)).drop 35))) (ht : Tab W) => rootAbove_any i lf ((Sg.cuts r (35 + hn)).drop 35) A hn c W hi64 hlfl hb16 hbl hn6 hl ht
  rw [← hroot] at CRA0
  have hrtl := Sg.root_len p hn i m r
  generalize Sg.root p hn i m r = rt at CRA0 hrtl ⊢
  have hcd : dcells (Sg.cuts r (35 + hn)) = dcells (Sg.cuts r 35) ++ dcells ((Sg.cuts r (35 + hn)).drop 35) := by
    rw [← hct]
    unfold dcells
    rw [← List.map_append, ← List.flatten_append, List.take_append_drop]
  have hvc : (dcells (Sg.cuts r 35)).length = 560 := by rw [dcells_len hv16, hvl]
  generalize (Sg.cuts r (35 + hn)).drop 35 = bs at CRA0 hcd hbl
  generalize Sg.cuts r 35 = vs at hcd hvc CLF DVS
  have CRA := Lib.hid CRA0
  have DP := Lib.hid (D16.of hp)
  have DLF := Lib.hid (D16.of hlfl)
  have DDS := Lib.hid (D35.of hdl)
  have HT := Lib.hid hT
  have HCD := Lib.hid hcd
  have HVC := Lib.hid hvc
  have HBL := Lib.hid hbl
  have heq : ∀ W, (Op.equalIn 10000 23 (.agg (rt.map bv).toArray) (.agg (p.map bv).toArray)).run Tryd.prog W = .ok (decide (rt = p)) W := fun W => run_eq16 W rt p hrtl hp
  have hzz2 : siz (hn : Int) (i : Int) = (s.length : Int) := by rw [hzz]; omega
  rw [hzz2] at CS
  clear hh hp hm hs hT hgl hzz hzz2 hlD hlE hlF hx hr hml hdl hds hroot hdse hc16 hcl hv16 hvl hlfl hct hb16 hbl hrtl hcd hvc CRA0
  have CP2 := CP
  generalize cnt (hn : Int) = cc at *
  go_enter Tryd.func22, Tryd.ntmps22
  go_upto_region 1 with fail
  rw [← HU.out]
  clear HU
  go_wp2_with fail
  refine (CP.out u).mono ?_
  rintro e w1 ⟨rfl, rfl⟩
  go_wp2_with fail
  refine (CG.out w1).mono ?_
  rintro e w2 ⟨rfl, hw2⟩
  have G2 := Lib.hid (show Gr w1 w2 by rw [← hw2]; exact bytesWorld_below w1 (bstr s))
  have B2 := Lib.hid (Gr.to B0.out G2.out)
  clear hw2
  go_wp2_with fail
  refine (CS.out w2).mono ?_
  rintro e w3 ⟨rfl, b3⟩
  have B3 := Lib.hid (Gr.to B2.out b3)
  have G3 := Lib.hid (G2.out.trans (show Gr w2 w3 from b3))
  clear b3
  go_wp2_with fail
  refine (CE.out w3).mono ?_
  rintro e w4 ⟨rfl, rfl⟩
  go_wp2_with fail
  refine (CSP.out w4).mono ?_
  rintro e w5 ⟨v5, rfl, o5, b5⟩
  obtain ⟨A, c, rfl, hnc, _, hli⟩ := own_shape o5
  have B5a := Lib.hid (Gr.to B3.out b5)
  have BX5 := Lib.hid (BX.out.below (G3.out.trans (show Gr w4 w5 from b5)))
  have hli2 := hli
  rw [HCD.out] at hli2
  obtain ⟨bA, oA, rfl, _⟩ := hli2.at_ (by
    intro h0
    have h1 := congrArg List.length h0
    rw [List.length_append, HVC.out] at h1
    simp at h1)
  have LV0 := hli2.take 560
  rw [← HVC.out, List.take_left] at LV0
  have LB0 := hli2.drop 560
  rw [← HVC.out, List.drop_left, HVC.out] at LB0
  have LV1 := Lib.hid LV0
  have LB1 := Lib.hid LB0
  clear o5 b5 hli hli2 LV0 LB0 BX B3 G3 G2 B2 B0 CG CS CE CP CP2
  go_wp2_with (with_reducible refine wpList_load_mid rfl 23 (.tmp 4) rfl w.heap.size 0 rfl (p.map bv) _ BX5.out.range Tryd.underlying23 rfl DP.out.I ?_)
  refine (CM.out w5 (HT.out.below B5a.out)).mono ?_
  rintro e w6 ⟨rfl, b6⟩
  have G6 := Lib.hid (show Gr w5 w6 from b6)
  clear b6 CM
  go_wp2_with fail
  refine (CDG.out w6).mono ?_
  rintro e w7 ⟨rfl, b7⟩
  have G7 := Lib.hid (G6.out.trans (show Gr w6 w7 from b7))
  clear b7 CDG G6
  go_upto_region 15 with (with_reducible refine wpList_store_new w7 rfl 25 (.tmp 15) (.tmp 56) rfl _ (ds.map nv).toArray rfl rfl DDS.out.J (Eq.trans (b := 35) (by kernel_rfl) DDS.out.Z.symm) DDS.out.O ?_)
  have rd := Row.newl w7 (ds.map nv) 25
  have gv := G7.out.trans (Gr.al w7 (.cells (ds.map nv).toArray 25))
  obtain ⟨gd, hgd⟩ : ∃ x, x = w7.heap.size := ⟨_, rfl⟩
  obtain ⟨V, hV⟩ : ∃ x, x = w7.alloc (.cells (ds.map nv).toArray 25) := ⟨_, rfl⟩
  rw [← hV] at rd gv ⊢
  rw [← hgd] at rd ⊢
  have RD := Lib.hid rd
  have BX := Lib.hid (BX5.out.below gv)
  have B5 := Lib.hid (Gr.to B5a.out gv)
  have HSZ5 := Lib.hid B5.out.size
  have HBX : Hid (w.heap.size < V.heap.size) := Lib.hid (World.block_lt_of_cell? _ _ (BX.out 0 (bv (p.getD 0 0)) (by
    have := DP.out.len
    rw [List.length_map] at this
    rw [List.getElem?_map, List.getD_eq_getElem?_getD, List.getElem?_eq_getElem (by omega)]; rfl)).1)
  have LV := Lib.hid (fun (W : World) (hg : Gr V W) => ((LV1.out.below gv).below hg).range)
  have LB := Lib.hid (fun (W : World) (hb : Below V.heap.size V W) => (LB1.out.below gv).below hb)
  have hn64 : (35 + hn : Nat) ≤ c := hnc
  have hn66 : ¬ ((c : Int) < 35) := by omega
  have hn67 : ¬ (35 + (hn : Int) < 35) := by omega
  have har : ∀ W : World, (Instr.arrayAt 55 (.slice (some ⟨bA, oA, none⟩) 35 c)).run Tryd.prog W = .ok (.pointer (some ⟨bA, oA, none⟩)) W := fun W => by simp [Instr.arrayAt, run_underlying Tryd.underlying55, go_sem]
  have hn65 : ((35 + hn : Nat) : Int) = 35 + (hn : Int) := by omega
  clear rd gv hgd hV LV1 LB1 BX5 B5a G7
  refine wpK_region (by kernel_rfl) ?_
  refine wpK_ta (i := 0) (some 57) rfl rfl (by kernel_rfl) (fun _ _ _ h => h) (Or.inl ⟨rfl, fun _ => rfl⟩) ?_
  simp only [Act.put, List.setIfInBounds_toArray, List.set_cons_zero, List.set_cons_succ]
  refine wpK_ta (i := 1) (some 58) rfl rfl (by kernel_rfl) (fun _ _ _ h => h) (Or.inl ⟨rfl, fun _ => rfl⟩) ?_
  simp only [Act.put, List.setIfInBounds_toArray, List.set_cons_zero, List.set_cons_succ]
  refine wpK_ta (i := 2) (some 59) (v := .slice (some ⟨bA, oA, none⟩) 35 c) rfl rfl (by kernel_rfl) (fun _ _ _ h => h) (Or.inl ⟨by rfl, fun W => by go_simp⟩) ?_
  simp only [Act.put, List.setIfInBounds_toArray, List.set_cons_zero, List.set_cons_succ]
  refine wpK_ta (i := 3) (some 60) (v := .pointer (some ⟨bA, oA, none⟩)) rfl rfl (by kernel_rfl) (fun _ _ _ h => h) (Or.inl ⟨by rfl, fun W => by go_simp⟩) ?_
  simp only [Act.put, List.setIfInBounds_toArray, List.set_cons_zero, List.set_cons_succ]
  refine wpK_tk (i := 4) (some 61) rfl rfl (by kernel_rfl) (fun _ _ _ h => h) (.load_mid (by rfl) 55 (.tmp 60) rfl (bA) (oA) rfl (dcells vs) _ (fun W hg => LV.out W hg.un) Tryd.underlying55 rfl DVS.out.I) ?_
  simp only [Act.put, List.setIfInBounds_toArray, List.set_cons_zero, List.set_cons_succ]
  refine wpK_tk (i := 5) (some 62) rfl rfl (by kernel_rfl) (fun _ _ _ h => h) (.load_mid (by rfl) 25 (.tmp 15) rfl (gd) (0) rfl (ds.map nv) _ (fun W hg => (RD.out.below hg.un).range) Tryd.underlying25 rfl DDS.out.I) ?_
  simp only [Act.put, List.setIfInBounds_toArray, List.set_cons_zero, List.set_cons_succ]
  refine wpK_tk (i := 6) (some 63) (v := .agg (lf.map bv).toArray) rfl rfl (by kernel_rfl) (fun _ _ _ h => h) (.call (f := 41) (args := #[.int .i64 (i : Int), .agg (dcells vs).toArray, .agg (ds.map nv).toArray]) (by rfl) (fun W => by go_simp) (fun W hg => CLF.out W (HT.out.below (Gr.to B5.out hg.un)))) ?_
  simp only [Act.put, List.setIfInBounds_toArray, List.set_cons_zero, List.set_cons_succ]
  refine wpK_val (i := 7) (some 16) rfl rfl (by kernel_rfl) (by rfl) (fun W1 hgW1 => ⟨.pointer (some ⟨W1.heap.size, 0, none⟩), W1.alloc (.cells z16 23), by (go_simp <;> rfl), Gr.al _ _, ?_⟩)
  simp only [Act.put, List.setIfInBounds_toArray, List.set_cons_zero, List.set_cons_succ]
  have n6 := Row.new W1 z16 23
  have g6 := hgW1.un.trans (Gr.al W1 (.cells z16 23))
  obtain ⟨g16, hg16⟩ : ∃ z, z = W1.heap.size := ⟨_, rfl⟩
  have hg16b : w.heap.size ≤ g16 := by have := hgW1.un.size; have := HSZ5.out; omega
  have hgne : V.heap.size ≤ g16 := by have := hgW1.un.size; omega
  obtain ⟨W4, e4⟩ : ∃ z, z = W1.alloc (.cells z16 23) := ⟨_, rfl⟩
  rw [← e4, ← hg16] at n6
  rw [← e4] at g6
  rw [← e4, ← hg16]
  have N6 : Hid (Row g16 (fill16 []) W4) := Lib.hid n6
  have G6 := Lib.hid g6
  clear n6 g6 e4 hg16
  refine wpK_store (i := 8) (none) rfl rfl (by kernel_rfl) (by rfl) (by rfl) (fun W8 hgW8 => ⟨_, run_store_mid 23 (.tmp 16) (.tmp 63) rfl (g16) (0) ((lf.map bv).toArray) rfl rfl ((N6.out.below hgW8).there 0 _ (by rw [DLF.out.Z, z16_len]; decide)) DLF.out.J DLF.out.O, ?_⟩)
  simp only [Act.put]
  refine wpK_done (by kernel_rfl) (fun W9 hgW9 => ?_) _
  have G8 := G6.out.trans hgW8
  have m1 := (Row.over (D := lf.map bv) (N6.out.below hgW8) (by rw [z16_len, DLF.out.len])).below hgW9
  have m2 := ((BX.out.below G8).far (b := g16) (by have := HBX.out; omega) 0 (lf.map bv)).below hgW9
  have m3 := Gr.to (below_setCells (b := g16) hg16b (lf.map bv) 0 w W8 (Gr.to B5.out G8)) hgW9
  have m4 : Below V.heap.size V W9 := Gr.to (below_setCells (b := g16) hgne (lf.map bv) 0 V W8 G8) hgW9
  have M1 := Lib.hid m1
  have M2 := Lib.hid m2
  have M3 := Lib.hid m3
  have M4 := Lib.hid m4
  clear m1 m2 m3 m4 G8 hgW9 hgW8 hgW1
  go_upto_region 16 with fail
  have hbsl := HBL.out
  obtain ⟨A', c', hsl, hlb⟩ : ∃ A' c', (∀ W, (Instr.sliceAt 49 (.slice (some ⟨bA, oA, none⟩) (35 + hn) c) (some (.int .i64 35)) none none).run Tryd.prog W = .ok (.slice A' hn c') W) ∧ (∀ W, Below V.heap.size V W → Lies W A' (dcells bs)) := by
    by_cases hc : c = 35
    · have h0 : hn = 0 := by omega
      subst h0 hc
      have hb0 : bs = [] := List.eq_nil_of_length_eq_zero hbsl
      exact ⟨some ⟨bA, oA, none⟩, 0, fun W => by go_simp, fun W _ => by rw [hb0]; exact .inl rfl⟩
    · exact ⟨some ⟨bA, oA + 560, none⟩, c - 35, fun W => by go_simp, fun W hb => LB.out W hb⟩
  have LBS := Lib.hid hlb
  clear hlb hbsl
  by_cases hrp : rt = p
  · rw [decide_eq_true hrp] at heq
    have HRP := Lib.hid hrp
    clear hrp
    refine wpK_region (by kernel_rfl) ?_
    refine wpK_ta (i := 0) (some 64) rfl rfl (by kernel_rfl) (fun _ _ _ h => h) (Or.inl ⟨rfl, fun _ => rfl⟩) ?_
    simp only [Act.put, List.setIfInBounds_toArray, List.set_cons_zero, List.set_cons_succ]
    refine wpK_ta (i := 2) (some 66) rfl rfl (by kernel_rfl) (fun _ _ _ h => h) (Or.inl ⟨rfl, fun _ => rfl⟩) ?_
    simp only [Act.put, List.setIfInBounds_toArray, List.set_cons_zero, List.set_cons_succ]
    refine wpK_tk (i := 1) (some 65) rfl rfl (by kernel_rfl) (fun _ _ _ h => h) (.load_mid (by rfl) 23 (.tmp 16) rfl (g16) (0) rfl (lf.map bv) _ (fun W hg => (M1.out.below hg.un).range) Tryd.underlying23 rfl DLF.out.I) ?_
    simp only [Act.put, List.setIfInBounds_toArray, List.set_cons_zero, List.set_cons_succ]
    refine wpK_ta (i := 3) (some 67) (v := .slice A' hn c') rfl rfl (by kernel_rfl) (fun _ _ _ h => h) (Or.inl ⟨by rfl, fun W => by go_simp⟩) ?_
    simp only [Act.put, List.setIfInBounds_toArray, List.set_cons_zero, List.set_cons_succ]
    refine wpK_tk (i := 4) (some 68) (v := .agg (rt.map bv).toArray) rfl rfl (by kernel_rfl) (fun _ _ _ h => h) (.call (f := 42) (args := #[.int .i64 (i : Int), .agg (lf.map bv).toArray, .slice A' hn c']) (by rfl) (fun W => by go_simp) (fun W hg => CRA.out A' c' W (LBS.out W (Gr.to M4.out hg.un)) (HT.out.below (Gr.to M3.out hg.un)))) ?_
    simp only [Act.put, List.setIfInBounds_toArray, List.set_cons_zero, List.set_cons_succ]
    refine wpK_tk (i := 5) (some 69) rfl rfl (by kernel_rfl) (fun _ _ _ h => h) (.load_mid (by rfl) 23 (.tmp 4) rfl (w.heap.size) (0) rfl (p.map bv) _ (fun W hg => (M2.out.below hg.un).range) Tryd.underlying23 rfl DP.out.I) ?_
    simp only [Act.put, List.setIfInBounds_toArray, List.set_cons_zero, List.set_cons_succ]
    refine wpK_ta (i := 6) (some 70) (v := .bool false) rfl rfl (by kernel_rfl) (fun _ _ _ h => h) (Or.inl ⟨by rfl, fun W => by go_simp⟩) ?_
    simp only [Act.put, List.setIfInBounds_toArray, List.set_cons_zero, List.set_cons_succ]
    refine wpK_done (by kernel_rfl) (fun W hgW => ?_) _
    have BF := Lib.hid (Gr.to M3.out hgW.un)
    clear hgW
    go_wp2_with fail
    go_ret2
    exact ⟨by first | rfl | (rw [if_pos HRP.out]; rfl), BF.out⟩
  · rw [decide_eq_false hrp] at heq
    have HRP := Lib.hid hrp
    clear hrp
    refine wpK_region (by kernel_rfl) ?_
    refine wpK_ta (i := 0) (some 64) rfl rfl (by kernel_rfl) (fun _ _ _ h => h) (Or.inl ⟨rfl, fun _ => rfl⟩) ?_
    simp only [Act.put, List.setIfInBounds_toArray, List.set_cons_zero, List.set_cons_succ]
    refine wpK_ta (i := 2) (some 66) rfl rfl (by kernel_rfl) (fun _ _ _ h => h) (Or.inl ⟨rfl, fun _ => rfl⟩) ?_
    simp only [Act.put, List.setIfInBounds_toArray, List.set_cons_zero, List.set_cons_succ]
    refine wpK_tk (i := 1) (some 65) rfl rfl (by kernel_rfl) (fun _ _ _ h => h) (.load_mid (by rfl) 23 (.tmp 16) rfl (g16) (0) rfl (lf.map bv) _ (fun W hg => (M1.out.below hg.un).range) Tryd.underlying23 rfl DLF.out.I) ?_
    simp only [Act.put, List.setIfInBounds_toArray, List.set_cons_zero, List.set_cons_succ]
    refine wpK_ta (i := 3) (some 67) (v := .slice A' hn c') rfl rfl (by kernel_rfl) (fun _ _ _ h => h) (Or.inl ⟨by rfl, fun W => by go_simp⟩) ?_
    simp only [Act.put, List.setIfInBounds_toArray, List.set_cons_zero, List.set_cons_succ]
    refine wpK_tk (i := 4) (some 68) (v := .agg (rt.map bv).toArray) rfl rfl (by kernel_rfl) (fun _ _ _ h => h) (.call (f := 42) (args := #[.int .i64 (i : Int), .agg (lf.map bv).toArray, .slice A' hn c']) (by rfl) (fun W => by go_simp) (fun W hg => CRA.out A' c' W (LBS.out W (Gr.to M4.out hg.un)) (HT.out.below (Gr.to M3.out hg.un)))) ?_
    simp only [Act.put, List.setIfInBounds_toArray, List.set_cons_zero, List.set_cons_succ]
    refine wpK_tk (i := 5) (some 69) rfl rfl (by kernel_rfl) (fun _ _ _ h => h) (.load_mid (by rfl) 23 (.tmp 4) rfl (w.heap.size) (0) rfl (p.map bv) _ (fun W hg => (M2.out.below hg.un).range) Tryd.underlying23 rfl DP.out.I) ?_
    simp only [Act.put, List.setIfInBounds_toArray, List.set_cons_zero, List.set_cons_succ]
    refine wpK_ta (i := 6) (some 70) (v := .bool true) rfl rfl (by kernel_rfl) (fun _ _ _ h => h) (Or.inl ⟨by rfl, fun W => by go_simp⟩) ?_
    simp only [Act.put, List.setIfInBounds_toArray, List.set_cons_zero, List.set_cons_succ]
    refine wpK_done (by kernel_rfl) (fun W hgW => ?_) _
    have BF := Lib.hid (Gr.to M3.out hgW.un)
    clear hgW
    go_wp2_with fail
    go_ret2
    exact ⟨by first | rfl | (rw [if_neg HRP.out]; rfl), BF.out⟩

set_option maxRecDepth 1000000 in
set_option maxHeartbeats 4000000 in
theorem rverify_any (p : List UInt8) (h : Int) (m s : List UInt8) (w : World) (hp : p.length = 16) (hm : m.length ≤ 1000) (hs : s.length ≤ 100000) (hT : TabR w) :
    Calls Tryd.prog 23 #[.agg (p.map bv).toArray, .int .i64 h, .string (bstr m), .string (bstr s)] w
      fun e w' => e = .returned (verV (Sg.verify p h m s)) ∧ Below w.heap.size w w' := by
  have hsz : (bstr s).size = s.length := bstr_size s
  have BX := Lib.hid (Row.newl w (p.map bv) 23)
  have g0 := Gr.al w (.cells (p.map bv).toArray 23)
  obtain ⟨u, hu⟩ : ∃ x, x = w.alloc (.cells (p.map bv).toArray 23) := ⟨_, rfl⟩
  have HUS := Lib.hid (show u.heap.size = w.heap.size + 1 by rw [hu]; simp)
  rw [← hu] at BX g0
  have B0 : Hid (Below w.heap.size w u) := Lib.hid g0
  have HU := Lib.hid hu
  clear hu g0
  by_cases hh : 0 ≤ h ∧ h ≤ 6
  case neg =>
    rw [ver_a hh]
    unfold verV
    have CP := Lib.hid (fun W => rcount_any h W)
    rw [cnt_out hh] at CP
    clear hh hp hm hs hT
    go_enter Tryd.func23, Tryd.ntmps23
    go_upto_region 1 with fail
    rw [← HU.out]
    clear HU
    go_wp2_with fail
    refine (CP.out u).mono ?_
    rintro e w1 ⟨rfl, rfl⟩
    go_wp2_with fail
    go_ret2
    exact ⟨rfl, B0.out⟩
  have kc := conv_bytes
  have CG := Lib.hid (fun (W : World) => refGetInt_any s (some ⟨W.heap.size, 0, none⟩) s.length (grownCap W s.length 0 5) (Lib.bytesWorld W 5 (bstr s)) rfl (by omega) (bytesWorld_lies W s))
  have hb := Wm.getI_bd (l := s)
  have hu1 := Wm.getI_used (l := s)
  have hcb := cnt_bd h
  have hcp := (cnt_pos h).2 hh
  have CP := Lib.hid (fun W => rcount_any h W)
  by_cases he : (Wm.getI s).2.2 = 0
  case neg =>
    rw [ver_b hh he]
    unfold verV
    generalize Wm.getI s = T at *
    obtain ⟨idx, used, er⟩ := T
    simp only at *
    have hne : (er != 0) = true := by simpa using he
    clear hh hp hm hs hT hb hu1 he
    have hc0 : (cnt h == 0) = false := by simp; omega
    generalize cnt h = cc at *
    go_enter Tryd.func23, Tryd.ntmps23
    go_upto_region 1 with fail
    rw [← HU.out]
    clear HU
    go_wp2_with fail
    refine (CP.out u).mono ?_
    rintro e w1 ⟨rfl, rfl⟩
    go_wp2_with fail
    refine (CG.out w1).mono ?_
    rintro e w2 ⟨rfl, hw2⟩
    have G2 := Lib.hid (show Gr w1 w2 by rw [← hw2]; exact bytesWorld_below w1 (bstr s))
    have B2 := Lib.hid (Gr.to B0.out G2.out)
    clear hw2
    go_wp2_with fail
    go_ret2
    exact ⟨rfl, B2.out⟩
  have hgl := getI_len he
  have CS := Lib.hid (fun (W : World) => rsize_any h (Wm.getI s).1 W hb)
  by_cases hx : 0 ≤ (Wm.getI s).1 ∧ (Wm.getI s).1 < cnt h
  case neg =>
    rw [ver_c hh he hx]
    unfold verV
    generalize Wm.getI s = T at *
    obtain ⟨idx, used, er⟩ := T
    simp only at *
    subst he
    have hc0 : (cnt h == 0) = false := by simp; omega
    clear hh hp hm hs hT hgl CS
    generalize cnt h = cc at *
    by_cases hneg : idx < 0
    · skip
      go_enter Tryd.func23, Tryd.ntmps23
      go_upto_region 1 with fail
      rw [← HU.out]
      clear HU
      go_wp2_with fail
      refine (CP.out u).mono ?_
      rintro e w1 ⟨rfl, rfl⟩
      go_wp2_with fail
      refine (CG.out w1).mono ?_
      rintro e w2 ⟨rfl, hw2⟩
      have G2 := Lib.hid (show Gr w1 w2 by rw [← hw2]; exact bytesWorld_below w1 (bstr s))
      have B2 := Lib.hid (Gr.to B0.out G2.out)
      clear hw2
      go_wp2_with fail
      go_ret2
      exact ⟨rfl, B2.out⟩
    · have hge : cc ≤ idx := by omega
      go_enter Tryd.func23, Tryd.ntmps23
      go_upto_region 1 with fail
      rw [← HU.out]
      clear HU
      go_wp2_with fail
      refine (CP.out u).mono ?_
      rintro e w1 ⟨rfl, rfl⟩
      go_wp2_with fail
      refine (CG.out w1).mono ?_
      rintro e w2 ⟨rfl, hw2⟩
      have G2 := Lib.hid (show Gr w1 w2 by rw [← hw2]; exact bytesWorld_below w1 (bstr s))
      have B2 := Lib.hid (Gr.to B0.out G2.out)
      clear hw2
      go_wp2_with fail
      refine (CP.out w2).mono ?_
      rintro e w3 ⟨rfl, rfl⟩
      go_wp2_with fail
      go_ret2
      exact ⟨rfl, B2.out⟩
  have hzz := siz_in hx
  by_cases hlD : (s.length : Int) < siz h (Wm.getI s).1
  · rw [ver_d hh he hx hlD]
    unfold verV
    generalize Wm.getI s = T at *
    obtain ⟨idx, used, er⟩ := T
    simp only at *
    subst he
    have hc0 : (cnt h == 0) = false := by simp; omega
    generalize siz h idx = zz at *
    clear hh hp hm hs hT hgl hzz
    obtain ⟨hx1, hx2⟩ := hx
    have hx0 : ¬ (idx < 0) := by omega
    generalize cnt h = cc at *
    go_enter Tryd.func23, Tryd.ntmps23
    go_upto_region 1 with fail
    rw [← HU.out]
    clear HU
    go_wp2_with fail
    refine (CP.out u).mono ?_
    rintro e w1 ⟨rfl, rfl⟩
    go_wp2_with fail
    refine (CG.out w1).mono ?_
    rintro e w2 ⟨rfl, hw2⟩
    have G2 := Lib.hid (show Gr w1 w2 by rw [← hw2]; exact bytesWorld_below w1 (bstr s))
    have B2 := Lib.hid (Gr.to B0.out G2.out)
    clear hw2
    go_wp2_with fail
    refine (CP.out w2).mono ?_
    rintro e w3 ⟨rfl, rfl⟩
    go_wp2_with fail
    refine (CS.out w3).mono ?_
    rintro e w4 ⟨rfl, b4⟩
    have B4 := Lib.hid (Gr.to B2.out b4)
    go_wp2_with fail
    go_ret2
    exact ⟨rfl, B4.out⟩
  by_cases hlE : siz h (Wm.getI s).1 < (s.length : Int)
  · rw [ver_e hh he hx hlE]
    unfold verV
    generalize Wm.getI s = T at *
    obtain ⟨idx, used, er⟩ := T
    simp only at *
    subst he
    have hc0 : (cnt h == 0) = false := by simp; omega
    generalize siz h idx = zz at *
    clear hh hp hm hs hT hgl hzz
    obtain ⟨hx1, hx2⟩ := hx
    have hx0 : ¬ (idx < 0) := by omega
    generalize cnt h = cc at *
    go_enter Tryd.func23, Tryd.ntmps23
    go_upto_region 1 with fail
    rw [← HU.out]
    clear HU
    go_wp2_with fail
    refine (CP.out u).mono ?_
    rintro e w1 ⟨rfl, rfl⟩
    go_wp2_with fail
    refine (CG.out w1).mono ?_
    rintro e w2 ⟨rfl, hw2⟩
    have G2 := Lib.hid (show Gr w1 w2 by rw [← hw2]; exact bytesWorld_below w1 (bstr s))
    have B2 := Lib.hid (Gr.to B0.out G2.out)
    clear hw2
    go_wp2_with fail
    refine (CP.out w2).mono ?_
    rintro e w3 ⟨rfl, rfl⟩
    go_wp2_with fail
    refine (CS.out w3).mono ?_
    rintro e w4 ⟨rfl, b4⟩
    have B4 := Lib.hid (Gr.to B2.out b4)
    go_wp2_with fail
    refine (CS.out w4).mono ?_
    rintro e w5 ⟨rfl, b5⟩
    have B5 := Lib.hid (Gr.to B4.out b5)
    go_wp2_with fail
    go_ret2
    exact ⟨rfl, B5.out⟩
  have hlF : (s.length : Int) = siz h (Wm.getI s).1 := by omega
  rw [ver_f hh he hx hlF]
  obtain ⟨hn, rfl⟩ := Int.eq_ofNat_of_zero_le hh.1
  rw [hzz] at hlF
  generalize Wm.getI s = T at *
  obtain ⟨idx, used, er⟩ := T
  simp only at *
  subst he
  obtain ⟨i, rfl⟩ := Int.eq_ofNat_of_zero_le hx.1
  rw [Int.toNat_natCast, Int.toNat_natCast]
  have hi64 : i < 64 := by omega
  have hn6 : hn ≤ 6 := by omega
  have hrl : (s.drop used).length = 16 * (35 + hn) := by rw [List.length_drop]; omega
  have hx2 : (bstr s).extract used s.length = bstr (s.drop used) := bstr_from s used _ rfl
  obtain ⟨r, hr⟩ : ∃ r, r = s.drop used := ⟨_, rfl⟩
  rw [← hr] at hrl hx2 ⊢
  have CRT := Lib.hid (fun (W : World) (ht : TabR W) => rroot_any p hn i m r W hp hn6 hi64 hm (by omega) (by omega) ht)
  have hrtl := Sg.root_len p hn i m r
  generalize Sg.root p hn i m r = rt at CRT hrtl ⊢
  have DP := Lib.hid (D16.of hp)
  have HT := Lib.hid hT
  have heq : ∀ W, (Op.equalIn 10000 23 (.agg (rt.map bv).toArray) (.agg (p.map bv).toArray)).run Tryd.prog W = .ok (decide (rt = p)) W := fun W => run_eq16 W rt p hrtl hp
  have hzz2 : siz (hn : Int) (i : Int) = (s.length : Int) := by rw [hzz]; omega
  rw [hzz2] at CS
  have hx3 := hx.2
  have hc0 : (cnt (hn : Int) == 0) = false := by simp; omega
  clear hh hp hm hs hT hgl hzz hzz2 hlD hlE hlF hx hr hrl hrtl
  generalize cnt (hn : Int) = cc at *
  go_enter Tryd.func23, Tryd.ntmps23
  go_upto_region 1 with fail
  rw [← HU.out]
  clear HU
  go_wp2_with fail
  refine (CP.out u).mono ?_
  rintro e w1 ⟨rfl, rfl⟩
  go_wp2_with fail
  refine (CG.out w1).mono ?_
  rintro e w2 ⟨rfl, hw2⟩
  have G2 := Lib.hid (show Gr w1 w2 by rw [← hw2]; exact bytesWorld_below w1 (bstr s))
  have B2 := Lib.hid (Gr.to B0.out G2.out)
  clear hw2
  go_wp2_with fail
  refine (CP.out w2).mono ?_
  rintro e w3 ⟨rfl, rfl⟩
  go_wp2_with fail
  refine (CS.out w3).mono ?_
  rintro e w4 ⟨rfl, b4⟩
  have B4 := Lib.hid (Gr.to B2.out b4)
  go_wp2_with fail
  refine (CS.out w4).mono ?_
  rintro e w5 ⟨rfl, b5⟩
  have B5 := Lib.hid (Gr.to B4.out b5)
  have G5 := (G2.out.trans b4).trans (show Gr w4 w5 from b5)
  have BX5 := Lib.hid (BX.out.below G5)
  clear b5 G5 G2
  go_upto_region 12 with fail
  have hu3 := hu1.1
  have hu4 : ¬ ((s.length : Int) < (used : Int)) := by omega
  by_cases hrp : rt = p
  · rw [decide_eq_true hrp] at heq
    have HRP := Lib.hid hrp
    clear hrp
    refine wpK_region (by kernel_rfl) ?_
    refine wpK_ta (i := 1) (some 47) rfl rfl (by kernel_rfl) (fun _ _ _ h => h) (Or.inl ⟨rfl, fun _ => rfl⟩) ?_
    simp only [Act.put, List.setIfInBounds_toArray, List.set_cons_zero, List.set_cons_succ]
    refine wpK_ta (i := 2) (some 48) rfl rfl (by kernel_rfl) (fun _ _ _ h => h) (Or.inl ⟨rfl, fun _ => rfl⟩) ?_
    simp only [Act.put, List.setIfInBounds_toArray, List.set_cons_zero, List.set_cons_succ]
    refine wpK_ta (i := 3) (some 49) rfl rfl (by kernel_rfl) (fun _ _ _ h => h) (Or.inl ⟨rfl, fun _ => rfl⟩) ?_
    simp only [Act.put, List.setIfInBounds_toArray, List.set_cons_zero, List.set_cons_succ]
    refine wpK_ta (i := 4) (some 50) rfl rfl (by kernel_rfl) (fun _ _ _ h => h) (Or.inl ⟨rfl, fun _ => rfl⟩) ?_
    simp only [Act.put, List.setIfInBounds_toArray, List.set_cons_zero, List.set_cons_succ]
    refine wpK_ta (i := 5) (some 51) rfl rfl (by kernel_rfl) (fun _ _ _ h => h) (Or.inl ⟨rfl, fun _ => rfl⟩) ?_
    simp only [Act.put, List.setIfInBounds_toArray, List.set_cons_zero, List.set_cons_succ]
    refine wpK_tk (i := 0) (some 46) rfl rfl (by kernel_rfl) (fun _ _ _ h => h) (.load_mid (by rfl) 23 (.tmp 4) rfl (w.heap.size) (0) rfl (p.map bv) _ (fun W hg => (BX5.out.below hg.un).range) Tryd.underlying23 rfl DP.out.I) ?_
    simp only [Act.put, List.setIfInBounds_toArray, List.set_cons_zero, List.set_cons_succ]
    refine wpK_ta (i := 6) (some 52) (v := .string (bstr r)) rfl rfl (by kernel_rfl) (fun _ _ _ h => h) (Or.inl ⟨by rfl, fun W => by go_simp⟩) ?_
    simp only [Act.put, List.setIfInBounds_toArray, List.set_cons_zero, List.set_cons_succ]
    refine wpK_tk (i := 7) (some 53) (v := .agg (rt.map bv).toArray) rfl rfl (by kernel_rfl) (fun _ _ _ h => h) (.call (f := 25) (args := #[.agg (p.map bv).toArray, .int .i64 (hn : Int), .int .i64 (i : Int), .string (bstr m), .string (bstr r)]) (by rfl) (fun W => by go_simp) (fun W hg => CRT.out W (HT.out.below (Gr.to B5.out hg.un)))) ?_
    simp only [Act.put, List.setIfInBounds_toArray, List.set_cons_zero, List.set_cons_succ]
    refine wpK_tk (i := 8) (some 54) rfl rfl (by kernel_rfl) (fun _ _ _ h => h) (.load_mid (by rfl) 23 (.tmp 4) rfl (w.heap.size) (0) rfl (p.map bv) _ (fun W hg => (BX5.out.below hg.un).range) Tryd.underlying23 rfl DP.out.I) ?_
    simp only [Act.put, List.setIfInBounds_toArray, List.set_cons_zero, List.set_cons_succ]
    refine wpK_ta (i := 9) (some 55) (v := .bool false) rfl rfl (by kernel_rfl) (fun _ _ _ h => h) (Or.inl ⟨by rfl, fun W => by go_simp⟩) ?_
    simp only [Act.put, List.setIfInBounds_toArray, List.set_cons_zero, List.set_cons_succ]
    refine wpK_done (by kernel_rfl) (fun W hgW => ?_) _
    have BF := Lib.hid (Gr.to B5.out hgW.un)
    clear hgW
    go_wp2_with fail
    go_ret2
    exact ⟨by first | rfl | (rw [if_pos HRP.out]; rfl), BF.out⟩
  · rw [decide_eq_false hrp] at heq
    have HRP := Lib.hid hrp
    clear hrp
    refine wpK_region (by kernel_rfl) ?_
    refine wpK_ta (i := 1) (some 47) rfl rfl (by kernel_rfl) (fun _ _ _ h => h) (Or.inl ⟨rfl, fun _ => rfl⟩) ?_
    simp only [Act.put, List.setIfInBounds_toArray, List.set_cons_zero, List.set_cons_succ]
    refine wpK_ta (i := 2) (some 48) rfl rfl (by kernel_rfl) (fun _ _ _ h => h) (Or.inl ⟨rfl, fun _ => rfl⟩) ?_
    simp only [Act.put, List.setIfInBounds_toArray, List.set_cons_zero, List.set_cons_succ]
    refine wpK_ta (i := 3) (some 49) rfl rfl (by kernel_rfl) (fun _ _ _ h => h) (Or.inl ⟨rfl, fun _ => rfl⟩) ?_
    simp only [Act.put, List.setIfInBounds_toArray, List.set_cons_zero, List.set_cons_succ]
    refine wpK_ta (i := 4) (some 50) rfl rfl (by kernel_rfl) (fun _ _ _ h => h) (Or.inl ⟨rfl, fun _ => rfl⟩) ?_
    simp only [Act.put, List.setIfInBounds_toArray, List.set_cons_zero, List.set_cons_succ]
    refine wpK_ta (i := 5) (some 51) rfl rfl (by kernel_rfl) (fun _ _ _ h => h) (Or.inl ⟨rfl, fun _ => rfl⟩) ?_
    simp only [Act.put, List.setIfInBounds_toArray, List.set_cons_zero, List.set_cons_succ]
    refine wpK_tk (i := 0) (some 46) rfl rfl (by kernel_rfl) (fun _ _ _ h => h) (.load_mid (by rfl) 23 (.tmp 4) rfl (w.heap.size) (0) rfl (p.map bv) _ (fun W hg => (BX5.out.below hg.un).range) Tryd.underlying23 rfl DP.out.I) ?_
    simp only [Act.put, List.setIfInBounds_toArray, List.set_cons_zero, List.set_cons_succ]
    refine wpK_ta (i := 6) (some 52) (v := .string (bstr r)) rfl rfl (by kernel_rfl) (fun _ _ _ h => h) (Or.inl ⟨by rfl, fun W => by go_simp⟩) ?_
    simp only [Act.put, List.setIfInBounds_toArray, List.set_cons_zero, List.set_cons_succ]
    refine wpK_tk (i := 7) (some 53) (v := .agg (rt.map bv).toArray) rfl rfl (by kernel_rfl) (fun _ _ _ h => h) (.call (f := 25) (args := #[.agg (p.map bv).toArray, .int .i64 (hn : Int), .int .i64 (i : Int), .string (bstr m), .string (bstr r)]) (by rfl) (fun W => by go_simp) (fun W hg => CRT.out W (HT.out.below (Gr.to B5.out hg.un)))) ?_
    simp only [Act.put, List.setIfInBounds_toArray, List.set_cons_zero, List.set_cons_succ]
    refine wpK_tk (i := 8) (some 54) rfl rfl (by kernel_rfl) (fun _ _ _ h => h) (.load_mid (by rfl) 23 (.tmp 4) rfl (w.heap.size) (0) rfl (p.map bv) _ (fun W hg => (BX5.out.below hg.un).range) Tryd.underlying23 rfl DP.out.I) ?_
    simp only [Act.put, List.setIfInBounds_toArray, List.set_cons_zero, List.set_cons_succ]
    refine wpK_ta (i := 9) (some 55) (v := .bool true) rfl rfl (by kernel_rfl) (fun _ _ _ h => h) (Or.inl ⟨by rfl, fun W => by go_simp⟩) ?_
    simp only [Act.put, List.setIfInBounds_toArray, List.set_cons_zero, List.set_cons_succ]
    refine wpK_done (by kernel_rfl) (fun W hgW => ?_) _
    have BF := Lib.hid (Gr.to B5.out hgW.un)
    clear hgW
    go_wp2_with fail
    go_ret2
    exact ⟨by first | rfl | (rw [if_neg HRP.out]; rfl), BF.out⟩
end Go.Proofs.YtdbdlhgkhnenfaaDoor
