/-
  Contracts of package sign: all levels of a tree.
-/
import Derived.Test.YtdbdlhgkhnenfaaDoorGsh
import Derived.Test.YtdbdlhgkhnenfaaDoorGsi
import Derived.Test.YtdbdlhgkhnenfaaDoorGq
namespace Go.Proofs.YtdbdlhgkhnenfaaDoor
open Go.RowKit

/-- the values of a level -/
def lev (seed : List UInt8) (H l : Nat) : List (List UInt8) := (List.range (2 ^ (H - l))).map (Sg.value seed l)
/-- the cells of the levels -/
def lvc (H : Nat) (f : Nat → Value) : List Value := (List.range (H + 1)).map f
def upd (f : Nat → Value) (l : Nat) (v : Value) : Nat → Value := fun x => if x = l then v else f x
theorem lv_get (f : Nat → Value) (H l : Nat) (h : l ≤ H) : (lvc H f)[l]? = some (f l) := by
  unfold lvc; rw [List.getElem?_map, List.getElem?_range (by omega)]; rfl
theorem lvc_len (f : Nat → Value) (H : Nat) : (lvc H f).length = H + 1 := by unfold lvc; rw [List.length_map, List.length_range]
theorem lvc_set (f : Nat → Value) (H l : Nat) (v : Value) : (lvc H f).set l v = lvc H (upd f l v) := by
  apply List.ext_getElem?
  intro j
  by_cases hj : j = l
  · subst hj
    by_cases h : j ≤ H
    · rw [lv_get _ _ _ h, List.getElem?_set_self (by rw [lvc_len]; omega)]
      unfold upd; rw [if_pos rfl]
    · rw [List.getElem?_eq_none (by rw [List.length_set, lvc_len]; omega), List.getElem?_eq_none (by rw [lvc_len]; omega)]
  · rw [List.getElem?_set_ne (fun e => hj e.symm)]
    by_cases h : j ≤ H
    · rw [lv_get _ _ _ h, lv_get _ _ _ h]; unfold upd; rw [if_neg hj]
    · rw [List.getElem?_eq_none (by rw [lvc_len]; omega), List.getElem?_eq_none (by rw [lvc_len]; omega)]
theorem upd_upd (f : Nat → Value) (l : Nat) (v u : Value) : upd (upd f l v) l u = upd f l u := by
  funext x; unfold upd; by_cases h : x = l <;> simp [h]
theorem upd_same (f : Nat → Value) (l : Nat) (v : Value) (h : f l = v) : upd f l v = f := by
  funext x; unfold upd; by_cases hx : x = l
  · subst hx; rw [if_pos rfl, h]
  · rw [if_neg hx]
theorem Row.lvset {g H l : Nat} {f : Nat → Value} {w : World} {v0 : Value} (h : Row g (lvc H (upd f l v0)) w) (i : Nat) (hi : i = l) (v : Value) (hl : l ≤ H) : Row g (lvc H (upd f l v)) (w.setCell ⟨g, i, none⟩ v) := by
  subst hi
  have h1 := h.set i v (by rw [lvc_len]; omega)
  rwa [lvc_set, upd_upd] at h1
theorem own_set {w : World} {B e size n g : Nat} {v : Value} {xs : List Value} (h : w.ownsRow B e size v n xs) (hg : g < B) (i : Nat) (u : Value) : (w.setCell ⟨g, i, none⟩ u).ownsRow B e size v n xs :=
  h.kept (row := some g) ⟨rfl, rfl, rfl, by simp, fun k _ hk => heap_setCell_other w _ k u (by intro e; subst e; exact hk rfl)⟩ (by
    cases hv : v.ownBlock with
    | none => exact .inl rfl
    | some k => right; intro e; cases e; have := (h.lt _ hv).1; omega)
theorem Row.own {w : World} {B e g n c : Nat} {xs : List Value} (h : w.ownsRow B e 1 (.slice (some ⟨g, 0, none⟩) n c) n xs) : Row g xs w := fun j v hj => by
  have h1 := h.cells (g := g) rfl j v hj
  rw [Addr.add_lit, Nat.zero_add] at h1
  exact ⟨h1, h.frozenAt j⟩

/-- a level is laid, its block being neither g nor at or above B -/
def LevB (seed : List UInt8) (H g B : Nat) (w : World) (l : Nat) (v : Value) : Prop :=
  ∃ b o c, v = .slice (some ⟨b, o, none⟩) (2 ^ (H - l)) c ∧ 2 ^ (H - l) ≤ c ∧ Lies w (some ⟨b, o, none⟩) (dcells (lev seed H l)) ∧ b ≠ g ∧ b < B
theorem Lies.hold {w w' : World} {b o : Nat} {xs : List Value} (h : Lies w (some ⟨b, o, none⟩) xs) (hk : ∀ j, w'.cell? ⟨b, j, none⟩ = w.cell? ⟨b, j, none⟩) : Lies w' (some ⟨b, o, none⟩) xs := by
  rcases h with h | ⟨b', o', e, hc⟩
  · exact .inl h
  · cases e
    exact .inr ⟨_, _, rfl, fun j u hu => (hk (o + j)).trans (hc j u hu)⟩
theorem LevB.low {seed : List UInt8} {H g B l : Nat} {w w' : World} {v : Value} (h : LevB seed H g B w l v) (hb : Below B w w') : LevB seed H g B w' l v := by
  obtain ⟨b, o, c, rfl, hc, hl, h1, h2⟩ := h
  exact ⟨b, o, c, rfl, hc, hl.hold (fun j => hb.cell h2), h1, h2⟩
theorem LevB.gr {seed : List UInt8} {H g B l : Nat} {w w' : World} {v : Value} (h : LevB seed H g B w l v) (hb : Gr w w') : LevB seed H g B w' l v := by
  obtain ⟨b, o, c, rfl, hc, hl, h1, h2⟩ := h
  exact ⟨b, o, c, rfl, hc, hl.below hb, h1, h2⟩
theorem LevB.steps {seed : List UInt8} {H g B l : Nat} {w w1 w' : World} {v : Value} (h : LevB seed H g B w l v) (hg : Gr w w1) (hb : Below B w1 w') : LevB seed H g B w' l v := (h.gr hg).low hb
theorem LevB.set {seed : List UInt8} {H g B l : Nat} {w : World} {v : Value} (h : LevB seed H g B w l v) (i : Nat) (u : Value) : LevB seed H g B (w.setCell ⟨g, i, none⟩ u) l v := by
  obtain ⟨b, o, c, rfl, hc, hl, h1, h2⟩ := h
  exact ⟨b, o, c, rfl, hc, hl.hold (fun j => World.cell?_setCell_other _ _ _ _ (by intro e; cases e; exact h1 rfl)), h1, h2⟩
theorem LevB.up {seed : List UInt8} {H g B B' l : Nat} {w : World} {v : Value} (h : LevB seed H g B w l v) (hb : B ≤ B') : LevB seed H g B' w l v := by
  obtain ⟨b, o, c, rfl, hc, hl, h1, h2⟩ := h
  exact ⟨b, o, c, rfl, hc, hl, h1, by omega⟩
theorem lev_len (seed : List UInt8) (H l : Nat) : (lev seed H l).length = 2 ^ (H - l) := by unfold lev; rw [List.length_map, List.length_range]
theorem lev_16 (seed : List UInt8) (H l : Nat) : Is16 (lev seed H l) := fun d hd => by
  unfold lev at hd
  obtain ⟨x, _, rfl⟩ := List.mem_map.1 hd
  exact Sg.value_len _ _ _
theorem lev_get (seed : List UInt8) (H l j : Nat) (h : j < 2 ^ (H - l)) : (lev seed H l).getD j [] = Sg.value seed l j := by
  unfold lev; rw [List.getD_eq_getElem?_getD, List.getElem?_map, List.getElem?_range h]; rfl
/-- an own row that is whole is a level -/
theorem LevB.own {seed : List UInt8} {H g B l n : Nat} {w : World} {v : Value} (h : w.ownsRow B 23 16 v n (dcells ((List.range n).map (Sg.value seed l)))) (hn : n = 2 ^ (H - l)) (hg : g < B) : LevB seed H g w.heap.size w l v := by
  subst hn
  have hw := h
  have hp : 0 < 2 ^ (H - l) := Nat.two_pow_pos _
  obtain ⟨_, h2⟩ := h
  rcases h2 with ⟨_, h0⟩ | ⟨b, cap, cur, rfl, hb, hh, h3, _⟩
  · omega
  · exact ⟨b, 0, cap, rfl, h3, Lies.own hw, by omega, (hw.lt b rfl).2⟩
theorem rng_succ (seed : List UInt8) (l k : Nat) : (List.range (k + 1)).map (Sg.value seed l) = (List.range k).map (Sg.value seed l) ++ [Sg.value seed l k] := by
  rw [List.range_succ, List.map_append]; rfl
theorem Tryd.infoSl : (Tryd.prog.info? 49).map (fun i => (i.zero, i.size, i.bytes)) = some (some (.slice none 0 0), 1, 24) := by kernel_rfl
theorem made (H : Nat) : (madeCells #[Value.slice none 0 0] (H + 1)).toList = lvc H (fun _ => .slice none 0 0) := by
  unfold madeCells lvc
  rw [Array.toList_map]
  simp [Nat.mod_one]

set_option maxRecDepth 1000000 in
set_option maxHeartbeats 2000000 in
theorem grow_any (seed : List UInt8) (H : Nat) (w : World) (hs : seed.length ≤ 1000000) (hH : H ≤ 6) (hT : Tab w) :
    Calls Tryd.prog 29 #[.string (bstr seed), .int .i64 (H : Int)] w
      fun e w' => ∃ gL f, e = .returned (.slice (some ⟨gL, 0, none⟩) (H + 1) (H + 1)) ∧ Row gL (lvc H f) w' ∧ (∀ l, l ≤ H → LevB seed H gL w'.heap.size w' l (f l)) ∧ Below w.heap.size w w' := by
  obtain ⟨i1, hi1, hza, hzb, hzc⟩ := info_parts Tryd.infoSl
  obtain ⟨i0, hi, hz0, hz1, hz2⟩ := info_parts Tryd.infoD3
  have HT := Lib.hid hT
  have HS := Lib.hid hs
  have HC := Lib.hid (fun W => count_any (H : Int) W)
  have hcn : cnt (H : Int) = ((2 ^ H : Nat) : Int) := by rw [cnt_in (by omega)]; norm_cast
  have hp64 : 2 ^ H ≤ 64 := Nat.le_trans (Nat.pow_le_pow_right (by omega) hH) (by decide)
  rw [hcn] at HC
  obtain ⟨N, hN⟩ : ∃ N, N = 2 ^ H := ⟨_, rfl⟩
  rw [← hN] at HC hp64
  have HN := Lib.hid hN
  have HMD := Lib.hid (made H)
  have HH1 := Lib.hid (show (H : Int) + 1 = ((H + 1 : Nat) : Int) by omega)
  clear hT hs hcn hN
  go_enter Tryd.func29, Tryd.ntmps29
  go_wp2_with (at_make; go_loud (refine wpList_make_full w rfl _ _ 50 rfl w.heap.size 49 i1 (.slice none 0 0) 1 Tryd.underlying50 hi1 hza hzb _ _ _ _ (H + 1) rfl rfl HH1.out HH1.out ?b1 ?b2 (Nat.le_refl _) ?_))
  case b1 => rw [hzc]; omega
  case b2 => unfold maxLen; omega
  intro w2 ho hg
  rw [HMD.out] at ho
  have hb : Below w.heap.size w w2 := (Below.refl _ _).grown hg (Nat.le_refl _) (fun k hk => by cases hk)
  have r0 := Row.own ho
  have hlt := World.block_lt_of_cell? _ _ (r0 0 _ (lv_get _ H 0 (by omega))).1
  obtain ⟨gL, hgL⟩ : ∃ z, z = w.heap.size := ⟨_, rfl⟩
  have HGL0 := Lib.hid hgL
  rw [← hgL] at r0 hlt ⊢
  have HGL : Hid (w.heap.size ≤ gL) := Lib.hid (by omega)
  have R0 := Lib.hid r0
  have B0 := Lib.hid hb
  have HLT := Lib.hid (show gL < w2.heap.size from hlt)
  clear ho hg hb r0 hlt hgL HMD
  go_wp2_with fail
  refine (HC.out w2).mono ?_
  rintro e w3 ⟨rfl, rfl⟩
  obtain ⟨B, hB⟩ : ∃ z, z = w3.heap.size := ⟨_, rfl⟩
  have HGB : Hid (gL < B) := Lib.hid (by rw [hB]; exact HLT.out)
  have HWB : Hid (w.heap.size ≤ B) := Lib.hid (by rw [hB]; exact B0.out.size)
  have HBE := Lib.hid hB
  clear hB HLT HC
  go_wp2_with fail
  go_loopw [14] (fun i' wr => ∃ (k : Nat) (v : Value), i' = .int .i64 (k : Int) ∧ k ≤ N ∧ Row gL (lvc H (upd (fun _ => .slice none 0 0) 0 v)) wr ∧ wr.ownsRow B 23 16 v k (dcells ((List.range k).map (Sg.value seed 0))) ∧ B ≤ wr.heap.size ∧ Below w.heap.size w wr) (fun i' _ => N - (intOf i').toNat)
  case atStart => exact ⟨0, .slice none 0 0, rfl, by omega, by rw [upd_same _ _ _ rfl]; exact R0.out, World.ownsRow_nil _ _ _ _, by rw [HBE.out]; exact Nat.le_refl _, B0.out⟩
  case round =>
    obtain ⟨k, v, rfl, hk, h1, hown, hsz, h3⟩ := hrel
    by_cases hlt : k < N
    · obtain ⟨A0, c0, rfl, _, _, _⟩ := own_shape hown
      have hts := congrArg dcells (rng_succ seed 0 k)
      rw [dcells_snoc] at hts
      have hts2 := rng_succ seed 0 k
      have hyv : Sg.value seed 0 k = Sg.leafFrom (k : Int) (Sg.secs seed (k : Int) 35) Sg.zeros := rfl
      have hyl := Sg.value_len seed 0 k
      have CS := Lib.hid (fun (W : World) (ht : Tab W) => secrets_any seed (k : Int) W HS.out (by omega) ht)
      have CLF := Lib.hid (fun (W : World) (ht : Tab W) => leafOf_any (k : Int) (Sg.secs seed (k : Int) 35) Sg.zeros W (Sg.secs_16 _ _ _) (Sg.secs_length _ _ _) (by unfold Sg.zeros; rw [List.length_replicate]) (fun j => by rw [Sg.zeros_get]; omega) (by omega) ht)
      rw [← hyv] at CLF
      generalize Sg.value seed 0 k = y at hts hts2 hyl CLF
      have CL := Lib.hid (fun (W : World) (hg : Gr wr W) => ((h1.below hg) 0 (.slice A0 k c0) (lv_get _ H 0 (by omega))).1)
      have HY16 := Lib.hid hyl
      have HTS := Lib.hid hts2
      have OW := Lib.hid hown
      have RL := Lib.hid h1
      have B3 := Lib.hid h3
      have HSZ := Lib.hid hsz
      clear hts hts2 hyv hyl h1 hown h3 hsz R0 B0 HBE
      go_wp2_with fail
      refine wpK_region (by kernel_rfl) ?_
      refine wpK_ta (i := 0) (some 17) rfl rfl (by kernel_rfl) (fun _ _ _ h => h) (Or.inl ⟨rfl, fun _ => rfl⟩) ?_
      simp only [Act.put, List.setIfInBounds_toArray, List.set_cons_zero, List.set_cons_succ]
      refine wpK_ta (i := 1) (some 18) rfl rfl (by kernel_rfl) (fun _ _ _ h => h) (Or.inl ⟨rfl, fun _ => rfl⟩) ?_
      simp only [Act.put, List.setIfInBounds_toArray, List.set_cons_zero, List.set_cons_succ]
      refine wpK_ta (i := 4) (some 21) rfl rfl (by kernel_rfl) (fun _ _ _ h => h) (Or.inl ⟨rfl, fun _ => rfl⟩) ?_
      simp only [Act.put, List.setIfInBounds_toArray, List.set_cons_zero, List.set_cons_succ]
      refine wpK_ta (i := 5) (some 22) rfl rfl (by kernel_rfl) (fun _ _ _ h => h) (Or.inl ⟨rfl, fun _ => rfl⟩) ?_
      simp only [Act.put, List.setIfInBounds_toArray, List.set_cons_zero, List.set_cons_succ]
      refine wpK_ta (i := 6) (some 23) rfl rfl (by kernel_rfl) (fun _ _ _ h => h) (Or.inl ⟨rfl, fun _ => rfl⟩) ?_
      simp only [Act.put, List.setIfInBounds_toArray, List.set_cons_zero, List.set_cons_succ]
      refine wpK_ta (i := 2) (some 19) (v := .pointer (some ⟨gL, 0, none⟩)) rfl rfl (by kernel_rfl) (fun _ _ _ h => h) (Or.inl ⟨by rfl, fun W => by go_simp⟩) ?_
      simp only [Act.put, List.setIfInBounds_toArray, List.set_cons_zero, List.set_cons_succ]
      refine wpK_tk (i := 3) (some 20) (v := .slice A0 k c0) rfl rfl (by kernel_rfl) (fun _ _ _ h => h) (.val (by rfl) (fun W hg => by have hc := CL.out W hg.un; go_simp)) ?_
      simp only [Act.put, List.setIfInBounds_toArray, List.set_cons_zero, List.set_cons_succ]
      refine wpK_tk (i := 7) (some 24) (v := .agg (dcells (Sg.secs seed (k : Int) 35)).toArray) rfl rfl (by kernel_rfl) (fun _ _ _ h => h) (.call (f := 32) (args := #[.string (bstr seed), .int .i64 (k : Int)]) (by rfl) (fun W => by go_simp) (fun W hg => CS.out W (HT.out.below (Gr.to B3.out hg.un)))) ?_
      simp only [Act.put, List.setIfInBounds_toArray, List.set_cons_zero, List.set_cons_succ]
      refine wpK_ta (i := 8) (some 25) (v := .agg (Sg.zeros.map nv).toArray) rfl rfl (by kernel_rfl) (fun _ _ _ h => h) (Or.inl ⟨by rfl, fun W => by (go_simp <;> rfl)⟩) ?_
      simp only [Act.put, List.setIfInBounds_toArray, List.set_cons_zero, List.set_cons_succ]
      refine wpK_tk (i := 9) (some 26) (v := .agg (y.map bv).toArray) rfl rfl (by kernel_rfl) (fun _ _ _ h => h) (.call (f := 41) (args := #[.int .i64 (k : Int), .agg (dcells (Sg.secs seed (k : Int) 35)).toArray, .agg (Sg.zeros.map nv).toArray]) (by rfl) (fun W => by go_simp) (fun W hg => CLF.out W (HT.out.below (Gr.to B3.out hg.un)))) ?_
      simp only [Act.put, List.setIfInBounds_toArray, List.set_cons_zero, List.set_cons_succ]
      have hy16 := HY16.out
      refine wpK_val (i := 10) (some 27) rfl rfl (by kernel_rfl) (by rfl) (fun W1 hgW1 => ⟨.slice (some ⟨W1.heap.size, 0, none⟩) 1 1, W1.alloc (.cells (y.map bv).toArray 23), by (go_simp; exact congrArg (fun c => W1.alloc (.cells c 23)) (fold16 y HY16.out rfl)), Gr.al _ _, ?_⟩)
      simp only [Act.put, List.setIfInBounds_toArray, List.set_cons_zero, List.set_cons_succ]
      have l4 := Lies.fresh W1 (y.map bv) 23
      have g4 := hgW1.un.trans (Gr.al W1 (.cells (y.map bv).toArray 23))
      obtain ⟨W4, e4⟩ : ∃ z, z = W1.alloc (.cells (y.map bv).toArray 23) := ⟨_, rfl⟩
      rw [← e4] at l4 g4 ⊢
      have L4 := Lib.hid l4
      have G4 := Lib.hid g4
      clear l4 g4 e4
      refine wpK_append (j := 11) (some 28) rfl rfl (by kernel_rfl) (by rfl) (by rfl) (.tmp 20) (.tmp 27) 49 rfl (B) 23 i0 (.agg z16) 16 16 Tryd.underlying49 hi hz0 hz1 hz2 rfl _ (k) _ (y.map bv) (by rw [List.length_map, HY16.out]) (bvs_one y) (W1.heap.size) rfl rfl (by unfold maxLen; omega) (by omega) (Nat.le_trans HSZ.out G4.out.size) (fun W hg => own_below OW.out (G4.out.trans hg)) (fun W hg => L4.out.below hg) ?_
      intro W5 v6 w6 hgW5 o6 b6
      simp only [Act.put, List.setIfInBounds_toArray, List.set_cons_zero, List.set_cons_succ]
      obtain ⟨A6, c6, rfl, _, _, _⟩ := own_shape o6
      rw [← dcells_snoc, ← HTS.out] at o6
      have G5 := G4.out.trans hgW5
      have P6 := Lib.hid o6
      have R6 := Lib.hid ((RL.out.below G5).low b6 HGB.out)
      have B6 := Lib.hid ((Gr.to B3.out G5).trans (b6.mono HWB.out))
      have S6 := Lib.hid (Nat.le_trans (Nat.le_trans HSZ.out G5.size) b6.size)
      clear o6 b6 G5 hgW5 hgW1
      refine wpK_ta (i := 12) (some 29) (v := .pointer (some ⟨gL, 0, none⟩)) rfl rfl (by kernel_rfl) (fun _ _ _ h => h) (Or.inl ⟨by rfl, fun W => by go_simp⟩) ?_
      simp only [Act.put, List.setIfInBounds_toArray, List.set_cons_zero, List.set_cons_succ]
      refine wpK_store (i := 13) (none) rfl rfl (by kernel_rfl) (by rfl) (by rfl) (fun W8 hgW8 => ⟨W8.setCell ⟨gL, 0, none⟩ (.slice A6 (k + 1) c6), by have hc := (R6.out.below hgW8) (0) _ (lv_get _ H _ (by omega)); have hc1 := hc.1; have hc2 := hc.2; go_simp, ?_⟩)
      simp only [Act.put]
      refine wpK_done (by kernel_rfl) (fun W9 hgW9 => ?_) _
      have r7 := ((R6.out.below hgW8).lvset 0 rfl (.slice A6 (k + 1) c6) (by omega)).below hgW9
      have o7 := own_below (own_set (own_below P6.out hgW8) HGB.out 0 (.slice A6 (k + 1) c6)) hgW9
      have b7 := Gr.to ((Gr.to B6.out hgW8).setCell (p := ⟨gL, 0, none⟩) HGL.out (.slice A6 (k + 1) c6)) hgW9
      have s7 := Nat.le_trans (Nat.le_trans S6.out hgW8.size) (Nat.le_trans (by simp) hgW9.size)
      have P1 := Lib.hid r7
      have P2 := Lib.hid o7
      have P3 := Lib.hid b7
      have P4 := Lib.hid s7
      clear r7 o7 b7 s7 hgW8 hgW9
      go_wp2_with fail
      first
        | exact ⟨⟨k + 1, _, by go_num, by omega, P1.out, P2.out, P4.out, P3.out⟩, by simp [intOf]; omega⟩
        | (go_roundw
           case rel => exact ⟨k + 1, _, by go_num, by omega, P1.out, P2.out, P4.out, P3.out⟩
           case measure => simp [intOf]; omega)
    · have hk2 : k = N := by omega
      subst hk2
      have hl0 := LevB.own (H := H) (g := gL) hown (by rw [HN.out]; rfl) HGB.out
      have RL := Lib.hid h1
      have B3 := Lib.hid h3
      have HL0 := Lib.hid hl0
      clear h1 hown h3 hl0 hsz R0 B0 HBE hk hlt
      go_wp2_with fail
      go_loopw [32] (fun i' wr => ∃ (l : Nat) (f : Nat → Value), i' = .int .i64 (l : Int) ∧ l ≤ H ∧ Row gL (lvc H f) wr ∧ (∀ x, x ≤ l → LevB seed H gL wr.heap.size wr x (f x)) ∧ (∀ x, l < x → f x = .slice none 0 0) ∧ Below w.heap.size w wr) (fun i' _ => H - (intOf i').toNat)
      case atStart => exact ⟨0, _, rfl, by omega, RL.out, (fun x hx => by
          obtain rfl : x = 0 := by omega
          unfold upd; rw [if_pos rfl]; exact HL0.out), (fun x hx => by unfold upd; rw [if_neg (by omega)]), B3.out⟩
      case round =>
        obtain ⟨l, f, rfl, hl, h1, h4, h5, h3⟩ := hrel
        by_cases hlt : l < H
        · obtain ⟨bA, oA, cA, hfl, hcA, hlies, hbg, hbB⟩ := h4 l (Nat.le_refl _)
          have hc0 := (h1 l (f l) (lv_get _ H l (by omega))).1
          rw [hfl] at hc0
          obtain ⟨N2, hN2⟩ : ∃ N2, N2 = 2 ^ (H - l) := ⟨_, rfl⟩
          obtain ⟨N1, hN1⟩ : ∃ N1, N1 = 2 ^ (H - (l + 1)) := ⟨_, rfl⟩
          have h21 : N2 = 2 * N1 := by
            rw [hN2, hN1, show H - l = (H - (l + 1)) + 1 by omega, Nat.pow_succ]; omega
          have hN64 : N2 ≤ 64 := by rw [hN2]; exact Nat.le_trans (Nat.pow_le_pow_right (by omega) (show H - l ≤ 6 by omega)) (by decide)
          have hdiv : (N2 : Int) / 2 = (N1 : Int) := by omega
          rw [← hN2] at hfl hc0 hcA
          have HN2 := Lib.hid hN2
          have HN1 := Lib.hid hN1
          have HFL := Lib.hid hfl
          have hgB2 := World.block_lt_of_cell? _ _ hc0
          have hwB2 := h3.size
          have h5l := h5 (l + 1) (by omega)
          have Q1 := Lib.hid h1
          have Q4 := Lib.hid h4
          have Q5 := Lib.hid h5
          have Q3 := Lib.hid h3
          clear HGB HWB
          obtain ⟨B, hB⟩ : ∃ z, z = wr.heap.size := ⟨_, rfl⟩
          have HGB : Hid (gL < B) := Lib.hid (by rw [hB]; exact hgB2)
          have HWB : Hid (w.heap.size ≤ B) := Lib.hid (by rw [hB]; exact hwB2)
          have HBE := Lib.hid hB
          have H5L := Lib.hid h5l
          clear h1 h3 h4 h5 hgB2 hwB2 h5l hfl hN2 hN1 hB hlies hbg hbB RL B3 HL0
          go_wp2_with fail
          go_loopw [41] (fun i' wr => ∃ (k : Nat) (v : Value), i' = .int .i64 (k : Int) ∧ k ≤ N1 ∧ Row gL (lvc H (upd f (l + 1) v)) wr ∧ wr.ownsRow B 23 16 v k (dcells ((List.range k).map (Sg.value seed (l + 1)))) ∧ B ≤ wr.heap.size ∧ (∀ x, x ≤ l → LevB seed H gL B wr x (f x)) ∧ Below w.heap.size w wr) (fun i' _ => N1 - (intOf i').toNat)
          case atStart => exact ⟨0, .slice none 0 0, rfl, by omega, by rw [upd_same _ _ _ H5L.out]; exact Q1.out, World.ownsRow_nil _ _ _ _, by rw [HBE.out]; exact Nat.le_refl _, by rw [HBE.out]; exact Q4.out, Q3.out⟩
          case round =>
            obtain ⟨k, v, rfl, hk, h1, hown, hsz, h4, h3⟩ := hrel
            by_cases hlt3 : k < N1
            · obtain ⟨A0, c0, rfl, _, _, _⟩ := own_shape hown
              have hts2 := rng_succ seed (l + 1) k
              have hyv : Sg.value seed (l + 1) k = Sg.node ((l + 1 : Nat) : Int) (k : Int) (Sg.value seed l (2 * k)) (Sg.value seed l (2 * k + 1)) := rfl
              have hyl := Sg.value_len seed (l + 1) k
              have CJ := Lib.hid (fun (W : World) (ht : Tab W) => join_any ((l + 1 : Nat) : Int) (k : Int) (Sg.value seed l (2 * k)) (Sg.value seed l (2 * k + 1)) W (Sg.value_len _ _ _) (Sg.value_len _ _ _) ht (by omega) (by omega))
              rw [← hyv] at CJ
              have e1 : ((l + 1 : Nat) : Int) = (l : Int) + 1 := by omega
              rw [e1] at CJ
              obtain ⟨b', o', c', e', _, hlies, _, _⟩ := h4 l (Nat.le_refl _)
              have e2 := HFL.out.symm.trans e'
              simp only [Value.slice.injEq, Option.some.injEq, Addr.mk.injEq] at e2
              obtain ⟨⟨rfl, rfl, _⟩, _, rfl⟩ := e2
              have hk1 : 2 * k < 2 ^ (H - l) := by rw [← HN2.out]; omega
              have hk2 : 2 * k + 1 < 2 ^ (H - l) := by rw [← HN2.out]; omega
              have LD1 := Lib.hid (fun (W : World) (hg : Gr wr W) => (hlies.below hg).digest (lev_16 seed H l) (k := 2 * k) (by rw [lev_len]; exact hk1))
              have LD2 := Lib.hid (fun (W : World) (hg : Gr wr W) => (hlies.below hg).digest (lev_16 seed H l) (k := 2 * k + 1) (by rw [lev_len]; exact hk2))
              rw [lev_get _ _ _ _ hk1] at LD1
              rw [lev_get _ _ _ _ hk2] at LD2
              have DD1 := Lib.hid (D16.of (Sg.value_len seed l (2 * k)))
              have DD2 := Lib.hid (D16.of (Sg.value_len seed l (2 * k + 1)))
              generalize Sg.value seed l (2 * k) = d1 at CJ LD1 DD1
              generalize Sg.value seed l (2 * k + 1) = d2 at CJ LD2 DD2
              generalize Sg.value seed (l + 1) k = y at hts2 hyl CJ
              have hup : upd f (l + 1) (.slice A0 k c0) (l + 1) = .slice A0 k c0 := by unfold upd; rw [if_pos rfl]
              have hup2 : upd f (l + 1) (.slice A0 k c0) l = .slice (some ⟨bA, oA, none⟩) N2 cA := by unfold upd; rw [if_neg (by omega)]; exact HFL.out
              have CL1 := Lib.hid (fun (W : World) (hg : Gr wr W) => ((h1.below hg) (l + 1) _ (lv_get _ H (l + 1) (by omega))).1)
              have CL0 := Lib.hid (fun (W : World) (hg : Gr wr W) => ((h1.below hg) l _ (lv_get _ H l (by omega))).1)
              rw [hup] at CL1
              rw [hup2] at CL0
              have hl9 : IntKind.i64.wrap ((l : Int) + 1) = (l : Int) + 1 := by simp [IntKind.wrap, IntKind.bits, IntKind.signed]; omega
              have hk9 : IntKind.i64.wrap (2 * (k : Int)) = 2 * (k : Int) := by simp [IntKind.wrap, IntKind.bits, IntKind.signed]; omega
              have hk8 : IntKind.i64.wrap (2 * (k : Int) + 1) = 2 * (k : Int) + 1 := by simp [IntKind.wrap, IntKind.bits, IntKind.signed]; omega
              have ha1 : (l : Int) + 1 < (H : Int) + 1 := by omega
              have ha2 : (0 : Int) ≤ (l : Int) + 1 := by omega
              have ha3 : (l : Int) < (H : Int) + 1 := by omega
              have ha4 : 2 * (k : Int) < (N2 : Int) := by omega
              have ha5 : 2 * (k : Int) + 1 < (N2 : Int) := by omega
              have ha6 : (0 : Int) ≤ 2 * (k : Int) := by omega
              have ha8 : ¬ (2 * (N1 : Int) ≤ 2 * (k : Int) + 1) := by omega
              have ha7 : (0 : Int) ≤ 2 * (k : Int) + 1 := by omega
              have hb1 : ((l : Int) + 1).toNat = l + 1 := by omega
              have hb2 : (2 * (k : Int)).toNat = 2 * k := by omega
              have hb3 : (2 * (k : Int) + 1).toNat = 2 * k + 1 := by omega
              have HY16 := Lib.hid hyl
              have HTS := Lib.hid hts2
              have OW := Lib.hid hown
              have RL := Lib.hid h1
              have B3 := Lib.hid h3
              have HSZ := Lib.hid hsz
              have LV := Lib.hid h4
              clear hts2 hyv hyl h1 hown h3 hsz h4 hlies e' hk1 hk2 e1 hup hup2 Q1 Q3 Q4 Q5 HBE H5L
              go_wp2_with fail
              refine wpK_region (by kernel_rfl) ?_
              refine wpK_ta (i := 0) (some 44) rfl rfl (by kernel_rfl) (fun _ _ _ h => h) (Or.inl ⟨rfl, fun _ => rfl⟩) ?_
              simp only [Act.put, List.setIfInBounds_toArray, List.set_cons_zero, List.set_cons_succ]
              refine wpK_ta (i := 1) (some 45) rfl rfl (by kernel_rfl) (fun _ _ _ h => h) (Or.inl ⟨rfl, fun _ => rfl⟩) ?_
              simp only [Act.put, List.setIfInBounds_toArray, List.set_cons_zero, List.set_cons_succ]
              refine wpK_ta (i := 3) (some 47) rfl rfl (by kernel_rfl) (fun _ _ _ h => h) (Or.inl ⟨rfl, fun _ => rfl⟩) ?_
              simp only [Act.put, List.setIfInBounds_toArray, List.set_cons_zero, List.set_cons_succ]
              refine wpK_ta (i := 4) (some 48) rfl rfl (by kernel_rfl) (fun _ _ _ h => h) (Or.inl ⟨rfl, fun _ => rfl⟩) ?_
              simp only [Act.put, List.setIfInBounds_toArray, List.set_cons_zero, List.set_cons_succ]
              refine wpK_ta (i := 8) (some 52) rfl rfl (by kernel_rfl) (fun _ _ _ h => h) (Or.inl ⟨rfl, fun _ => rfl⟩) ?_
              simp only [Act.put, List.setIfInBounds_toArray, List.set_cons_zero, List.set_cons_succ]
              refine wpK_ta (i := 10) (some 54) rfl rfl (by kernel_rfl) (fun _ _ _ h => h) (Or.inl ⟨rfl, fun _ => rfl⟩) ?_
              simp only [Act.put, List.setIfInBounds_toArray, List.set_cons_zero, List.set_cons_succ]
              refine wpK_ta (i := 11) (some 55) rfl rfl (by kernel_rfl) (fun _ _ _ h => h) (Or.inl ⟨rfl, fun _ => rfl⟩) ?_
              simp only [Act.put, List.setIfInBounds_toArray, List.set_cons_zero, List.set_cons_succ]
              refine wpK_ta (i := 12) (some 56) rfl rfl (by kernel_rfl) (fun _ _ _ h => h) (Or.inl ⟨rfl, fun _ => rfl⟩) ?_
              simp only [Act.put, List.setIfInBounds_toArray, List.set_cons_zero, List.set_cons_succ]
              refine wpK_ta (i := 15) (some 59) rfl rfl (by kernel_rfl) (fun _ _ _ h => h) (Or.inl ⟨rfl, fun _ => rfl⟩) ?_
              simp only [Act.put, List.setIfInBounds_toArray, List.set_cons_zero, List.set_cons_succ]
              refine wpK_ta (i := 19) (some 63) rfl rfl (by kernel_rfl) (fun _ _ _ h => h) (Or.inl ⟨rfl, fun _ => rfl⟩) ?_
              simp only [Act.put, List.setIfInBounds_toArray, List.set_cons_zero, List.set_cons_succ]
              refine wpK_ta (i := 20) (some 64) rfl rfl (by kernel_rfl) (fun _ _ _ h => h) (Or.inl ⟨rfl, fun _ => rfl⟩) ?_
              simp only [Act.put, List.setIfInBounds_toArray, List.set_cons_zero, List.set_cons_succ]
              refine wpK_ta (i := 23) (some 67) rfl rfl (by kernel_rfl) (fun _ _ _ h => h) (Or.inl ⟨rfl, fun _ => rfl⟩) ?_
              simp only [Act.put, List.setIfInBounds_toArray, List.set_cons_zero, List.set_cons_succ]
              refine wpK_ta (i := 2) (some 46) (v := .int .i64 ((l : Int) + 1)) rfl rfl (by kernel_rfl) (fun _ _ _ h => h) (Or.inl ⟨by rfl, fun W => by go_simp⟩) ?_
              simp only [Act.put, List.setIfInBounds_toArray, List.set_cons_zero, List.set_cons_succ]
              refine wpK_ta (i := 5) (some 49) (v := .int .i64 ((l : Int) + 1)) rfl rfl (by kernel_rfl) (fun _ _ _ h => h) (Or.inl ⟨by rfl, fun W => by go_simp⟩) ?_
              simp only [Act.put, List.setIfInBounds_toArray, List.set_cons_zero, List.set_cons_succ]
              refine wpK_ta (i := 9) (some 53) (v := .int .i64 ((l : Int) + 1)) rfl rfl (by kernel_rfl) (fun _ _ _ h => h) (Or.inl ⟨by rfl, fun W => by go_simp⟩) ?_
              simp only [Act.put, List.setIfInBounds_toArray, List.set_cons_zero, List.set_cons_succ]
              refine wpK_ta (i := 6) (some 50) (v := .pointer (some ⟨gL, l + 1, none⟩)) rfl rfl (by kernel_rfl) (fun _ _ _ h => h) (Or.inl ⟨by rfl, fun W => by go_simp⟩) ?_
              simp only [Act.put, List.setIfInBounds_toArray, List.set_cons_zero, List.set_cons_succ]
              refine wpK_ta (i := 13) (some 57) (v := .pointer (some ⟨gL, l, none⟩)) rfl rfl (by kernel_rfl) (fun _ _ _ h => h) (Or.inl ⟨by rfl, fun W => by go_simp⟩) ?_
              simp only [Act.put, List.setIfInBounds_toArray, List.set_cons_zero, List.set_cons_succ]
              refine wpK_ta (i := 21) (some 65) (v := .pointer (some ⟨gL, l, none⟩)) rfl rfl (by kernel_rfl) (fun _ _ _ h => h) (Or.inl ⟨by rfl, fun W => by go_simp⟩) ?_
              simp only [Act.put, List.setIfInBounds_toArray, List.set_cons_zero, List.set_cons_succ]
              refine wpK_tk (i := 7) (some 51) (v := .slice A0 k c0) rfl rfl (by kernel_rfl) (fun _ _ _ h => h) (.val (by rfl) (fun W hg => by have hc := CL1.out W hg.un; go_simp)) ?_
              simp only [Act.put, List.setIfInBounds_toArray, List.set_cons_zero, List.set_cons_succ]
              refine wpK_tk (i := 14) (some 58) (v := .slice (some ⟨bA, oA, none⟩) N2 cA) rfl rfl (by kernel_rfl) (fun _ _ _ h => h) (.val (by rfl) (fun W hg => by have hc := CL0.out W hg.un; go_simp)) ?_
              simp only [Act.put, List.setIfInBounds_toArray, List.set_cons_zero, List.set_cons_succ]
              refine wpK_tk (i := 22) (some 66) (v := .slice (some ⟨bA, oA, none⟩) N2 cA) rfl rfl (by kernel_rfl) (fun _ _ _ h => h) (.val (by rfl) (fun W hg => by have hc := CL0.out W hg.un; go_simp)) ?_
              simp only [Act.put, List.setIfInBounds_toArray, List.set_cons_zero, List.set_cons_succ]
              refine wpK_ta (i := 16) (some 60) (v := .int .i64 (2 * (k : Int))) rfl rfl (by kernel_rfl) (fun _ _ _ h => h) (Or.inl ⟨by rfl, fun W => by go_simp⟩) ?_
              simp only [Act.put, List.setIfInBounds_toArray, List.set_cons_zero, List.set_cons_succ]
              refine wpK_ta (i := 24) (some 68) (v := .int .i64 (2 * (k : Int))) rfl rfl (by kernel_rfl) (fun _ _ _ h => h) (Or.inl ⟨by rfl, fun W => by go_simp⟩) ?_
              simp only [Act.put, List.setIfInBounds_toArray, List.set_cons_zero, List.set_cons_succ]
              refine wpK_ta (i := 25) (some 69) (v := .int .i64 (2 * (k : Int) + 1)) rfl rfl (by kernel_rfl) (fun _ _ _ h => h) (Or.inl ⟨by rfl, fun W => by go_simp⟩) ?_
              simp only [Act.put, List.setIfInBounds_toArray, List.set_cons_zero, List.set_cons_succ]
              refine wpK_ta (i := 17) (some 61) (v := .pointer (some ⟨bA, oA + 2 * k * 16, none⟩)) rfl rfl (by kernel_rfl) (fun _ _ _ h => h) (Or.inl ⟨by rfl, fun W => by go_simp⟩) ?_
              simp only [Act.put, List.setIfInBounds_toArray, List.set_cons_zero, List.set_cons_succ]
              refine wpK_ta (i := 26) (some 70) (v := .pointer (some ⟨bA, oA + (2 * k + 1) * 16, none⟩)) rfl rfl (by kernel_rfl) (fun _ _ _ h => h) (Or.inl ⟨by rfl, fun W => by go_simp⟩) ?_
              simp only [Act.put, List.setIfInBounds_toArray, List.set_cons_zero, List.set_cons_succ]
              refine wpK_tk (i := 18) (some 62) rfl rfl (by kernel_rfl) (fun _ _ _ h => h) (.load_mid (by rfl) 23 (.tmp 61) rfl (bA) (oA + 2 * k * 16) rfl (d1.map bv) _ (fun W hg => LD1.out W hg.un) Tryd.underlying23 rfl DD1.out.I) ?_
              simp only [Act.put, List.setIfInBounds_toArray, List.set_cons_zero, List.set_cons_succ]
              refine wpK_tk (i := 27) (some 71) rfl rfl (by kernel_rfl) (fun _ _ _ h => h) (.load_mid (by rfl) 23 (.tmp 70) rfl (bA) (oA + (2 * k + 1) * 16) rfl (d2.map bv) _ (fun W hg => LD2.out W hg.un) Tryd.underlying23 rfl DD2.out.I) ?_
              simp only [Act.put, List.setIfInBounds_toArray, List.set_cons_zero, List.set_cons_succ]
              refine wpK_tk (i := 28) (some 72) (v := .agg (y.map bv).toArray) rfl rfl (by kernel_rfl) (fun _ _ _ h => h) (.call (f := 48) (args := #[.int .i64 ((l : Int) + 1), .int .i64 (k : Int), .agg (d1.map bv).toArray, .agg (d2.map bv).toArray]) (by rfl) (fun W => by go_simp) (fun W hg => CJ.out W (HT.out.below (Gr.to B3.out hg.un)))) ?_
              simp only [Act.put, List.setIfInBounds_toArray, List.set_cons_zero, List.set_cons_succ]
              have hy16 := HY16.out
              refine wpK_val (i := 29) (some 73) rfl rfl (by kernel_rfl) (by rfl) (fun W1 hgW1 => ⟨.slice (some ⟨W1.heap.size, 0, none⟩) 1 1, W1.alloc (.cells (y.map bv).toArray 23), by (go_simp; exact congrArg (fun c => W1.alloc (.cells c 23)) (fold16 y HY16.out rfl)), Gr.al _ _, ?_⟩)
              simp only [Act.put, List.setIfInBounds_toArray, List.set_cons_zero, List.set_cons_succ]
              have l4 := Lies.fresh W1 (y.map bv) 23
              have g4 := hgW1.un.trans (Gr.al W1 (.cells (y.map bv).toArray 23))
              obtain ⟨W4, e4⟩ : ∃ z, z = W1.alloc (.cells (y.map bv).toArray 23) := ⟨_, rfl⟩
              rw [← e4] at l4 g4 ⊢
              have L4 := Lib.hid l4
              have G4 := Lib.hid g4
              clear l4 g4 e4
              refine wpK_append (j := 30) (some 74) rfl rfl (by kernel_rfl) (by rfl) (by rfl) (.tmp 51) (.tmp 73) 49 rfl (B) 23 i0 (.agg z16) 16 16 Tryd.underlying49 hi hz0 hz1 hz2 rfl _ (k) _ (y.map bv) (by rw [List.length_map, HY16.out]) (bvs_one y) (W1.heap.size) rfl rfl (by unfold maxLen; omega) (by omega) (Nat.le_trans HSZ.out G4.out.size) (fun W hg => own_below OW.out (G4.out.trans hg)) (fun W hg => L4.out.below hg) ?_
              intro W5 v6 w6 hgW5 o6 b6
              simp only [Act.put, List.setIfInBounds_toArray, List.set_cons_zero, List.set_cons_succ]
              obtain ⟨A6, c6, rfl, _, _, _⟩ := own_shape o6
              rw [← dcells_snoc, ← HTS.out] at o6
              have G5 := G4.out.trans hgW5
              have P6 := Lib.hid o6
              have R6 := Lib.hid ((RL.out.below G5).low b6 HGB.out)
              have B6 := Lib.hid ((Gr.to B3.out G5).trans (b6.mono HWB.out))
              have S6 := Lib.hid (Nat.le_trans (Nat.le_trans HSZ.out G5.size) b6.size)
              have V6 := Lib.hid (fun x (hx : x ≤ l) => (LV.out x hx).steps G5 b6)
              clear o6 b6 G5 hgW5 hgW1
              refine wpK_ta (i := 31) (some 75) (v := .pointer (some ⟨gL, l + 1, none⟩)) rfl rfl (by kernel_rfl) (fun _ _ _ h => h) (Or.inl ⟨by rfl, fun W => by go_simp⟩) ?_
              simp only [Act.put, List.setIfInBounds_toArray, List.set_cons_zero, List.set_cons_succ]
              refine wpK_store (i := 32) (none) rfl rfl (by kernel_rfl) (by rfl) (by rfl) (fun W8 hgW8 => ⟨W8.setCell ⟨gL, l + 1, none⟩ (.slice A6 (k + 1) c6), by have hc := (R6.out.below hgW8) (l + 1) _ (lv_get _ H _ (by omega)); have hc1 := hc.1; have hc2 := hc.2; go_simp, ?_⟩)
              simp only [Act.put]
              refine wpK_done (by kernel_rfl) (fun W9 hgW9 => ?_) _
              have r7 := ((R6.out.below hgW8).lvset (l + 1) rfl (.slice A6 (k + 1) c6) (by omega)).below hgW9
              have o7 := own_below (own_set (own_below P6.out hgW8) HGB.out (l + 1) (.slice A6 (k + 1) c6)) hgW9
              have b7 := Gr.to ((Gr.to B6.out hgW8).setCell (p := ⟨gL, l + 1, none⟩) HGL.out (.slice A6 (k + 1) c6)) hgW9
              have s7 := Nat.le_trans (Nat.le_trans S6.out hgW8.size) (Nat.le_trans (by simp) hgW9.size)
              have v7 := fun x (hx : x ≤ l) => (((V6.out x hx).gr hgW8).set (l + 1) (.slice A6 (k + 1) c6)).gr hgW9
              have P1 := Lib.hid r7
              have P2 := Lib.hid o7
              have P3 := Lib.hid b7
              have P4 := Lib.hid s7
              have P5 := Lib.hid v7
              clear r7 o7 b7 s7 v7 hgW8 hgW9
              go_wp2_with fail
              first
                | exact ⟨⟨k + 1, _, by go_num, by omega, P1.out, P2.out, P4.out, P5.out, P3.out⟩, by simp [intOf]; omega⟩
                | (go_roundw
                   case rel => exact ⟨k + 1, _, by go_num, by omega, P1.out, P2.out, P4.out, P5.out, P3.out⟩
                   case measure => simp [intOf]; omega)
            · have hk2 : k = N1 := by omega
              subst hk2
              have hl0 := LevB.own (H := H) (g := gL) hown HN1.out HGB.out
              have W1 := Lib.hid h1
              have W2 := Lib.hid (fun x (hx : x ≤ l + 1) => (show LevB seed H gL wr.heap.size wr x (upd f (l + 1) v x) by
                by_cases hxl : x = l + 1
                · subst hxl; unfold upd; rw [if_pos rfl]; exact hl0
                · unfold upd; rw [if_neg hxl]; exact (h4 x (by omega)).up hsz))
              have W3 := Lib.hid (fun x (hx : l + 1 < x) => (show upd f (l + 1) v x = .slice none 0 0 by unfold upd; rw [if_neg (by omega)]; exact Q5.out x (by omega)))
              have W4 := Lib.hid h3
              clear h1 hown h3 h4 hl0 hsz hk hlt3 Q1 Q3 Q4 Q5 HBE H5L
              go_wp2_with fail
              first
                | exact ⟨⟨l + 1, _, by go_num, by omega, W1.out, W2.out, W3.out, W4.out⟩, by simp [intOf]; omega⟩
                | (go_roundw
                   case rel => exact ⟨l + 1, _, by go_num, by omega, W1.out, W2.out, W3.out, W4.out⟩
                   case measure => simp [intOf]; omega)
        · have hlH : l = H := by omega
          subst hlH
          have Q1 := Lib.hid h1
          have Q4 := Lib.hid h4
          have Q3 := Lib.hid h3
          clear h1 h4 h5 h3 RL B3 HL0
          go_wp2_with fail
          go_ret
          exact ⟨_, f, rfl, Q1.out, Q4.out, Q3.out⟩
end Go.Proofs.YtdbdlhgkhnenfaaDoor
