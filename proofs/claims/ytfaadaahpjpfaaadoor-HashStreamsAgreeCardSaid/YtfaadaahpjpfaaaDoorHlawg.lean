/-
  voxellaw02.HashStreamsAgree, its walk.
-/
import Derived.Test.YtfaadaahpjpfaaaDoorHstr
import Derived.Test.YtfaadaahpjpfaaaDoorHlawd
import Derived.Test.YtfaadaahpjpfaaaDoorHri
import Derived.Deep.RegionHeldLaw
import Derived.Deep.MidRow
import Derived.BigRegion
namespace Go.Proofs.YtfaadaahpjpfaaaDoor
open Go.RowKit

theorem StrC.I {M : List UInt8} {C : List Value} (h : StrC M C) : (Tryd.prog.info? 34).map (·.size) = some C.length := by rw [h.len]; exact size_stream
theorem StrC.J {M : List UInt8} {C : List Value} (h : StrC M C) : (Tryd.prog.info? 34).map (·.size) = some C.toArray.size := by rw [List.size_toArray, h.len]; exact size_stream
theorem StrC.Z {M : List UInt8} {C : List Value} (h : StrC M C) : C.toArray.size = 73 := by rw [List.size_toArray, h.len]
theorem StrC.O {M : List UInt8} {C : List Value} (h : StrC M C) : C.toArray.all (·.oneCell') = true := all_oneCell_toArray h.one
theorem Row.over {g : Nat} {C D : List Value} {w : World} (h : Row g C w) (hl : C.length = D.length) : Row g D (w.setCells g 0 D) := by
  have h1 := h.setCells 0 D (by omega)
  rw [List.take_zero, List.nil_append, List.drop_of_length_le (by omega), List.append_nil] at h1
  exact h1
theorem Few.take {l : List (List UInt8)} (h : Few l) (k : Nat) : Few (l.take k) := ⟨by rw [List.length_take]; have := h.1; omega, fun s hs => h.2 s (List.mem_of_mem_take hs)⟩

set_option maxRecDepth 1000000 in
set_option maxHeartbeats 1000000 in
theorem streams_law (l : List (List UInt8)) (A : Option Addr) (n c : Nat) (ot : List UInt8) (p : Int) (hp : 0 ≤ p ∧ p < 256) (w : World) (hT : Tab w) (hR : TabR w)
    (hn : l.length = n) (hl : Lies w A (l.map sv)) (hs : ∀ s ∈ l, s.length ≤ 140737488351232) (hnb : n ≤ 140737488351232) (hnc : n ≤ c) (ho : ot.length ≤ 140737488351232) :
    Calls Tryd.prog 4 #[.slice A n c, .string (bstr ot), .int .u8 p] w fun e w' => e = .returned (.bool true) ∧ Below w.heap.size w w' := by
  have C := Lib.hid (sanity_any w hT)
  have CF := Lib.hid (fun (W : World) (hb : Below w.heap.size w W) => hrFew_any l A n c W hn (hl.below hb) hs hnb)
  have HT := Lib.hid hT
  have HTR := Lib.hid hR
  have HN := Lib.hid hn
  have HL := Lib.hid hl
  have HNC := Lib.hid hnc
  have eo : (bstr ot).size = ot.length := bstr_size ot
  clear hT hR hn hl hs hnc
  go_enter Tryd.func4, Tryd.ntmps4
  go_wp2_with fail
  refine C.out.mono ?_
  rintro e w1 ⟨rfl, h⟩
  have B1 := Lib.hid h
  clear h C
  go_wp2_with fail
  refine (CF.out w1 B1.out).mono ?_
  rintro e w' ⟨b, rfl, hf, rfl⟩
  clear CF
  cases b with
  | false =>
    go_wp2_with fail
    go_ret
    exact ⟨rfl, B1.out⟩
  | true =>
    have HF := Lib.hid (hf rfl)
    clear hf
    by_cases h4 : ot.length ≤ 400
    · have hn12 : n ≤ 12 := by have := HF.out.1; have := HN.out; omega
      obtain ⟨k, hk1, hkn⟩ : ∃ k : Nat, p % ((n : Int) + 1) = (k : Int) ∧ k ≤ n := ⟨(p % ((n : Int) + 1)).toNat, by have := Int.emod_nonneg p (show ((n : Int) + 1) ≠ 0 by omega); omega, by have := Int.emod_lt_of_pos p (show (0 : Int) < (n : Int) + 1 by omega); have := Int.emod_nonneg p (show ((n : Int) + 1) ≠ 0 by omega); omega⟩
      have hk2 : Int.tmod p ((n : Int) + 1) = (k : Int) := by rw [Int.tmod_eq_emod_of_nonneg hp.1]; exact hk1
      have hp1 := hp.1
      have hp2 := hp.2
      have hz := zero_stream
      clear hp
      go_wp2_with fail
      refine (hsBegin_c w1 (HT.out.below B1.out)).mono ?_
      rintro e w2 ⟨C0, rfl, hs0, h⟩
      have HC0 := Lib.hid hs0
      have B2 := Lib.hid (B1.out.trans (h.mono B1.out.size))
      have J := Lib.hid hs0.J
      have Z := Lib.hid hs0.Z
      have O := Lib.hid hs0.O
      clear h hs0 B1 hp1 hp2 hk2 hk1
      go_upto_region 6 with (with_reducible refine wpList_store_new w2 rfl 34 (.tmp 9) (.tmp 32) rfl _ C0.toArray rfl rfl J.out (Eq.trans (b := 73) (by kernel_rfl) Z.out.symm) O.out ?_)
      have r9 := Row.newl w2 C0 34
      have b3 := B2.out.alloc B2.out.size (.cells C0.toArray 34)
      obtain ⟨g, hg⟩ : ∃ x, x = w2.heap.size := ⟨_, rfl⟩
      obtain ⟨V, hV⟩ : ∃ x, x = w2.alloc (.cells C0.toArray 34) := ⟨_, rfl⟩
      have hgw : w.heap.size ≤ g := by rw [hg]; exact B2.out.size
      rw [← hV] at r9 b3 ⊢
      rw [← hg] at r9 ⊢
      have R3 := Lib.hid r9
      have B3 := Lib.hid b3
      clear r9 b3 hV hg J Z O B2
      go_wp2_with fail
      go_loopw [10] (fun i wr => ∃ (j : Nat) (C : List Value), i = .int .i64 (j : Int) ∧ j ≤ k ∧ StrC (l.take j).flatten C ∧ Row g C wr ∧ Below w.heap.size w wr) (fun i _ => k - (intOf i).toNat)
      case atStart => exact ⟨0, C0, rfl, by omega, HC0.out, R3.out, B3.out⟩
      case round =>
        obtain ⟨j, C, rfl, hj, hs, hr, hb⟩ := hrel
        by_cases hlt : j < k
        · skip
          have hkl : j < l.length := by rw [HN.out]; omega
          obtain ⟨b, o, hA, _⟩ := HL.out.at_ (by simpa using List.ne_nil_of_length_pos (show 0 < l.length by omega))
          have hx := List.getElem?_eq_getElem hkl
          have hfs := flat_step hkl
          have hXl := HF.out.flat j
          have hxl := HF.out.2 l[j] (List.getElem_mem hkl)
          generalize l[j] = x at hx hfs hxl
          have hc : wr.cell? ⟨b, o + j, none⟩ = some (.string (bstr x)) := by
            have h1 := HL.out.below hb
            rw [hA] at h1
            exact h1.at1 (by rw [List.getElem?_map, hx]; rfl)
          have CA := Lib.hid (fun (W : World) (hb2 : Below wr.heap.size wr W) => hsAdd_c (l.take j).flatten x C W hs (by omega) (HT.out.below (hb.trans (hb2.mono hb.size))))
          rw [← hfs] at CA
          have RG := Lib.hid (show wr.drew.rangeAt g 0 C from hr.range)
          have HI := Lib.hid hs.I
          have HS := Lib.hid hs
          have HR := Lib.hid hr
          have HB := Lib.hid hb
          have B0 := Lib.hid (below_drew (Below.refl wr.heap.size wr))
          have hj0 : (0 : Int) ≤ (j : Int) := by omega
          have hjn : (j : Int) < (n : Int) := by omega
          clear hx hfs hxl hXl hs hr hb hkl
          subst hA
          go_wp2_with fail
          refine wp_region_any (by kernel_rfl) ?_
          change wpAny _ _ _ _ _ _ _ (World.drew _)
          refine wpAny_take (i := 1) rfl (by kernel_rfl) (by kernel_rfl) (by kernel_rfl) (fun _ _ _ h => h) (Or.inl ⟨rfl, fun _ => rfl⟩) ?_
          refine wpAny_take (i := 2) rfl (by kernel_rfl) (by kernel_rfl) (by kernel_rfl) (fun _ _ _ h => h) (Or.inl ⟨rfl, fun _ => rfl⟩) ?_
          refine wpAny_take (i := 3) (v := .pointer (some ⟨b, o + j, none⟩)) rfl (by kernel_rfl) (by kernel_rfl) (by kernel_rfl) (fun _ _ _ h => h) (Or.inl ⟨by rfl, by intro W; go_simp⟩) ?_
          refine wpAny_ready (rs := [0, 4]) (by kernel_rfl) (by simp) ?_
          refine AllReady.cons rfl (fun K hK => ?_) (AllReady.cons rfl (fun K hK => ?_) AllReady.nil)
          · rw [if_pos (by rfl)]
            refine wp_load_mid 34 (.tmp 9) rfl g 0 rfl C _ RG.out Tryd.underlying34 rfl HI.out ?_
            refine hK _ _ ?_
            clear hK K
            refine wpAny_ready (rs := [4]) (by kernel_rfl) (by simp) ?_
            refine AllReady.cons rfl (fun K hK => ?_) AllReady.nil
            go_simp
            refine hK _ _ ?_
            clear hK K
            refine wpAny_ready (rs := [5]) (by kernel_rfl) (by simp) ?_
            refine AllReady.cons rfl (fun K hK => ?_) AllReady.nil
            go_simp
            refine (CA.out _ B0.out).mono ?_
            rintro e w5 ⟨C2, rfl, hs2, b5⟩
            have r5 := HR.out.below (below_drew (Below.refl wr.heap.size wr) |>.trans b5)
            have TH := Lib.hid (r5.there 0 C2.toArray.size (by rw [List.size_toArray, hs2.len, HS.out.len]; omega))
            have J2 := Lib.hid hs2.J
            have O2 := Lib.hid hs2.O
            have R6 := Lib.hid (r5.over (by rw [hs2.len, HS.out.len]))
            have B6 := Lib.hid (below_setCells (b := g) hgw C2 0 w w5 (HB.out.trans ((B0.out.trans (b5.mono B0.out.size)).mono HB.out.size)))
            have HS2 := Lib.hid hs2
            clear hs2 b5 r5
            go_wp2_with fail
            first
              | (refine hK _ _ ?_; clear hK K)
              | skip
            refine wpAny_ready (rs := [6]) (by kernel_rfl) (by simp) ?_
            refine AllReady.cons rfl (fun K hK => ?_) AllReady.nil
            rw [if_pos (by rfl)]
            refine wp_store_mid 34 (.tmp 9) (.tmp 43) rfl g 0 C2.toArray rfl rfl TH.out J2.out O2.out ?_
            refine hK _ _ ?_
            clear hK K
            refine wpAny_done (by kernel_rfl) ?_ _
            go_wp2_with fail
            first
              | exact ⟨⟨j + 1, C2, by go_num, by omega, HS2.out, R6.out, B6.out⟩, by simp [intOf]; omega⟩
              | (go_roundw
                 case rel => exact ⟨j + 1, C2, by go_num, by omega, HS2.out, R6.out, B6.out⟩
                 case measure => simp [intOf]; omega)
          · go_simp
            refine hK _ _ ?_
            clear hK K
            refine wpAny_ready (rs := [0]) (by kernel_rfl) (by simp) ?_
            refine AllReady.cons rfl (fun K hK => ?_) AllReady.nil
            rw [if_pos (by rfl)]
            refine wp_load_mid 34 (.tmp 9) rfl g 0 rfl C _ RG.out Tryd.underlying34 rfl HI.out ?_
            refine hK _ _ ?_
            clear hK K
            refine wpAny_ready (rs := [5]) (by kernel_rfl) (by simp) ?_
            refine AllReady.cons rfl (fun K hK => ?_) AllReady.nil
            go_simp
            refine (CA.out _ B0.out).mono ?_
            rintro e w5 ⟨C2, rfl, hs2, b5⟩
            have r5 := HR.out.below (below_drew (Below.refl wr.heap.size wr) |>.trans b5)
            have TH := Lib.hid (r5.there 0 C2.toArray.size (by rw [List.size_toArray, hs2.len, HS.out.len]; omega))
            have J2 := Lib.hid hs2.J
            have O2 := Lib.hid hs2.O
            have R6 := Lib.hid (r5.over (by rw [hs2.len, HS.out.len]))
            have B6 := Lib.hid (below_setCells (b := g) hgw C2 0 w w5 (HB.out.trans ((B0.out.trans (b5.mono B0.out.size)).mono HB.out.size)))
            have HS2 := Lib.hid hs2
            clear hs2 b5 r5
            go_wp2_with fail
            first
              | (refine hK _ _ ?_; clear hK K)
              | skip
            refine wpAny_ready (rs := [6]) (by kernel_rfl) (by simp) ?_
            refine AllReady.cons rfl (fun K hK => ?_) AllReady.nil
            rw [if_pos (by rfl)]
            refine wp_store_mid 34 (.tmp 9) (.tmp 43) rfl g 0 C2.toArray rfl rfl TH.out J2.out O2.out ?_
            refine hK _ _ ?_
            clear hK K
            refine wpAny_done (by kernel_rfl) ?_ _
            go_wp2_with fail
            first
              | exact ⟨⟨j + 1, C2, by go_num, by omega, HS2.out, R6.out, B6.out⟩, by simp [intOf]; omega⟩
              | (go_roundw
                 case rel => exact ⟨j + 1, C2, by go_num, by omega, HS2.out, R6.out, B6.out⟩
                 case measure => simp [intOf]; omega)
        · have hjk : k = j := by omega
          subst hjk
          have HS := Lib.hid hs
          have HR := Lib.hid hr
          have HB := Lib.hid hb
          have hgr := World.block_lt_of_cell? _ _ (Option.isSome_iff_exists.1 (hr.there 0 1 (by rw [hs.len]; omega) 0 (by omega)).1).choose_spec
          have J := Lib.hid hs.J
          have Z := Lib.hid hs.Z
          have O := Lib.hid hs.O
          have RG := Lib.hid hr.range
          have HI := Lib.hid hs.I
          clear hs hr hb
          go_upto_region 11 with (first | (with_reducible refine wpList_load_mid rfl 34 (.tmp 9) rfl g 0 rfl C _ RG.out Tryd.underlying34 rfl HI.out ?_) | (with_reducible refine wpList_store_new wr rfl 34 (.tmp 11) (.tmp 44) rfl _ C.toArray rfl rfl J.out (Eq.trans (b := 73) (by kernel_rfl) Z.out.symm) O.out ?_))
          have r2 := Row.newl wr C 34
          have r1 := HR.out.below ((Below.refl _ _).alloc (Nat.le_refl _) (.cells C.toArray 34))
          have b4 := HB.out.alloc HB.out.size (.cells C.toArray 34)
          obtain ⟨g2, hg2⟩ : ∃ x, x = wr.heap.size := ⟨_, rfl⟩
          obtain ⟨V2, hV⟩ : ∃ x, x = wr.alloc (.cells C.toArray 34) := ⟨_, rfl⟩
          rw [← hV] at r1 r2 b4 ⊢
          rw [← hg2] at r2 hgr ⊢
          obtain ⟨E, hE⟩ : ∃ x, x = C := ⟨_, rfl⟩
          rw [← hE] at r1 r2 ⊢
          have hsE := HS.out
          rw [← hE] at hsE
          have RE := Lib.hid r2
          have R1 := Lib.hid r1
          have B4 := Lib.hid b4
          have HSE := Lib.hid hsE
          clear r1 r2 b4 hsE hE hV hg2 J Z O RG HI HS HR HB HC0 R3 B3
          go_wp2_with fail
          go_loopw [12] (fun i wr => ∃ (j : Nat) (C : List Value), i = .int .i64 (j : Int) ∧ k ≤ j ∧ j ≤ n ∧ StrC (l.take j).flatten C ∧ Row g C wr ∧ Row g2 E wr ∧ Below w.heap.size w wr) (fun i _ => n - (intOf i).toNat)
          case atStart => exact ⟨k, E, rfl, by omega, by omega, HSE.out, R1.out, RE.out, B4.out⟩
          case round =>
            obtain ⟨jj, C, rfl, hj1, hj2, hs, hr, hre, hb⟩ := hrel
            by_cases hlt : jj < n
            · skip
              have hkl : jj < l.length := by rw [HN.out]; omega
              obtain ⟨b, o, hA, _⟩ := HL.out.at_ (by simpa using List.ne_nil_of_length_pos (show 0 < l.length by omega))
              have hx := List.getElem?_eq_getElem hkl
              have hfs := flat_step hkl
              have hXl := HF.out.flat jj
              have hxl := HF.out.2 l[jj] (List.getElem_mem hkl)
              generalize l[jj] = x at hx hfs hxl
              have hc : wr.cell? ⟨b, o + jj, none⟩ = some (.string (bstr x)) := by
                have h1 := HL.out.below hb
                rw [hA] at h1
                exact h1.at1 (by rw [List.getElem?_map, hx]; rfl)
              have CA := Lib.hid (fun (W : World) (hb2 : Below wr.heap.size wr W) => hsAdd_c (l.take jj).flatten x C W hs (by omega) (HT.out.below (hb.trans (hb2.mono hb.size))))
              rw [← hfs] at CA
              have RG := Lib.hid (show wr.drew.rangeAt g 0 C from hr.range)
              have HI := Lib.hid hs.I
              have HS := Lib.hid hs
              have HR := Lib.hid hr
              have HB := Lib.hid hb
              have B0 := Lib.hid (below_drew (Below.refl wr.heap.size wr))
              have hj0 : (0 : Int) ≤ (jj : Int) := by omega
              have hjn : (jj : Int) < (n : Int) := by omega
              clear hx hfs hxl hXl hs hr hb hkl
              have HRE := Lib.hid hre
              clear hre
              subst hA
              go_wp2_with fail
              refine wp_region_any (by kernel_rfl) ?_
              change wpAny _ _ _ _ _ _ _ (World.drew _)
              refine wpAny_take (i := 1) rfl (by kernel_rfl) (by kernel_rfl) (by kernel_rfl) (fun _ _ _ h => h) (Or.inl ⟨rfl, fun _ => rfl⟩) ?_
              refine wpAny_take (i := 2) rfl (by kernel_rfl) (by kernel_rfl) (by kernel_rfl) (fun _ _ _ h => h) (Or.inl ⟨rfl, fun _ => rfl⟩) ?_
              refine wpAny_take (i := 3) (v := .pointer (some ⟨b, o + jj, none⟩)) rfl (by kernel_rfl) (by kernel_rfl) (by kernel_rfl) (fun _ _ _ h => h) (Or.inl ⟨by rfl, by intro W; go_simp⟩) ?_
              refine wpAny_ready (rs := [0, 4]) (by kernel_rfl) (by simp) ?_
              refine AllReady.cons rfl (fun K hK => ?_) (AllReady.cons rfl (fun K hK => ?_) AllReady.nil)
              · rw [if_pos (by rfl)]
                refine wp_load_mid 34 (.tmp 9) rfl g 0 rfl C _ RG.out Tryd.underlying34 rfl HI.out ?_
                refine hK _ _ ?_
                clear hK K
                refine wpAny_ready (rs := [4]) (by kernel_rfl) (by simp) ?_
                refine AllReady.cons rfl (fun K hK => ?_) AllReady.nil
                go_simp
                refine hK _ _ ?_
                clear hK K
                refine wpAny_ready (rs := [5]) (by kernel_rfl) (by simp) ?_
                refine AllReady.cons rfl (fun K hK => ?_) AllReady.nil
                go_simp
                refine (CA.out _ B0.out).mono ?_
                rintro e w5 ⟨C2, rfl, hs2, b5⟩
                have r5 := HR.out.below (below_drew (Below.refl wr.heap.size wr) |>.trans b5)
                have TH := Lib.hid (r5.there 0 C2.toArray.size (by rw [List.size_toArray, hs2.len, HS.out.len]; omega))
                have J2 := Lib.hid hs2.J
                have O2 := Lib.hid hs2.O
                have R6 := Lib.hid (r5.over (by rw [hs2.len, HS.out.len]))
                have RE6 := Lib.hid ((HRE.out.below (below_drew (Below.refl wr.heap.size wr) |>.trans b5)).far (b := g) (by omega) 0 C2)
                have B6 := Lib.hid (below_setCells (b := g) hgw C2 0 w w5 (HB.out.trans ((B0.out.trans (b5.mono B0.out.size)).mono HB.out.size)))
                have HS2 := Lib.hid hs2
                clear hs2 b5 r5
                go_wp2_with fail
                first
                  | (refine hK _ _ ?_; clear hK K)
                  | skip
                refine wpAny_ready (rs := [6]) (by kernel_rfl) (by simp) ?_
                refine AllReady.cons rfl (fun K hK => ?_) AllReady.nil
                rw [if_pos (by rfl)]
                refine wp_store_mid 34 (.tmp 9) (.tmp 57) rfl g 0 C2.toArray rfl rfl TH.out J2.out O2.out ?_
                refine hK _ _ ?_
                clear hK K
                refine wpAny_done (by kernel_rfl) ?_ _
                go_wp2_with fail
                first
                  | exact ⟨⟨jj + 1, C2, by go_num, by omega, by omega, HS2.out, R6.out, RE6.out, B6.out⟩, by simp [intOf]; omega⟩
                  | (go_roundw
                     case rel => exact ⟨jj + 1, C2, by go_num, by omega, by omega, HS2.out, R6.out, RE6.out, B6.out⟩
                     case measure => simp [intOf]; omega)
              · go_simp
                refine hK _ _ ?_
                clear hK K
                refine wpAny_ready (rs := [0]) (by kernel_rfl) (by simp) ?_
                refine AllReady.cons rfl (fun K hK => ?_) AllReady.nil
                rw [if_pos (by rfl)]
                refine wp_load_mid 34 (.tmp 9) rfl g 0 rfl C _ RG.out Tryd.underlying34 rfl HI.out ?_
                refine hK _ _ ?_
                clear hK K
                refine wpAny_ready (rs := [5]) (by kernel_rfl) (by simp) ?_
                refine AllReady.cons rfl (fun K hK => ?_) AllReady.nil
                go_simp
                refine (CA.out _ B0.out).mono ?_
                rintro e w5 ⟨C2, rfl, hs2, b5⟩
                have r5 := HR.out.below (below_drew (Below.refl wr.heap.size wr) |>.trans b5)
                have TH := Lib.hid (r5.there 0 C2.toArray.size (by rw [List.size_toArray, hs2.len, HS.out.len]; omega))
                have J2 := Lib.hid hs2.J
                have O2 := Lib.hid hs2.O
                have R6 := Lib.hid (r5.over (by rw [hs2.len, HS.out.len]))
                have RE6 := Lib.hid ((HRE.out.below (below_drew (Below.refl wr.heap.size wr) |>.trans b5)).far (b := g) (by omega) 0 C2)
                have B6 := Lib.hid (below_setCells (b := g) hgw C2 0 w w5 (HB.out.trans ((B0.out.trans (b5.mono B0.out.size)).mono HB.out.size)))
                have HS2 := Lib.hid hs2
                clear hs2 b5 r5
                go_wp2_with fail
                first
                  | (refine hK _ _ ?_; clear hK K)
                  | skip
                refine wpAny_ready (rs := [6]) (by kernel_rfl) (by simp) ?_
                refine AllReady.cons rfl (fun K hK => ?_) AllReady.nil
                rw [if_pos (by rfl)]
                refine wp_store_mid 34 (.tmp 9) (.tmp 57) rfl g 0 C2.toArray rfl rfl TH.out J2.out O2.out ?_
                refine hK _ _ ?_
                clear hK K
                refine wpAny_done (by kernel_rfl) ?_ _
                go_wp2_with fail
                first
                  | exact ⟨⟨jj + 1, C2, by go_num, by omega, by omega, HS2.out, R6.out, RE6.out, B6.out⟩, by simp [intOf]; omega⟩
                  | (go_roundw
                     case rel => exact ⟨jj + 1, C2, by go_num, by omega, by omega, HS2.out, R6.out, RE6.out, B6.out⟩
                     case measure => simp [intOf]; omega)
            · have hjn : n = jj := by omega
              subst hjn
              obtain ⟨D, hD⟩ : ∃ x, x = C := ⟨_, rfl⟩
              rw [← hD] at hs hr
              clear hD
              have htl : l.take n = l := List.take_of_length_le (by rw [HN.out]; exact Nat.le_refl _)
              have hX1 := HF.out.flat n
              have hX2 := HF.out.flat k
              rw [htl] at hs hX1
              have HSD := Lib.hid hs
              have R9 := Lib.hid hr
              have R11 := Lib.hid hre
              have B5 := Lib.hid hb
              have CJ1 := Lib.hid (fun (W : World) (hb : Below w.heap.size w W) => hrJoined_any l A n c W HN.out (HL.out.below hb) HF.out)
              have CJ2 := Lib.hid (fun (W : World) (hb : Below w.heap.size w W) => hrJoined_any (l.take k) A k c W (by rw [List.length_take, HN.out]; omega) (by rw [List.map_take]; exact (HL.out.below hb).take k) (HF.out.take k))
              generalize l.flatten = X1 at *
              generalize (l.take k).flatten = X2 at *
              have CA := Lib.hid (fun (W : World) (hb : Below w.heap.size w W) => hsAdd_c X2 ot E W HSE.out (by omega) (HT.out.below hb))
              have RGE := Lib.hid hre.range
              have IE := Lib.hid HSE.out.I
              have hkc : (k : Int) ≤ (c : Int) := by have := HNC.out; omega
              have hnc2 : (n : Int) ≤ (c : Int) := by have := HNC.out; omega
              have hk0 : (0 : Int) ≤ (k : Int) := by omega
              have hkn2 : (k : Int) ≤ (n : Int) := by omega
              clear hs hr hre hb htl hj1 hj2 hlt R1 RE B4 HL HF HNC
              go_wp2_with (with_reducible refine wpList_load_mid rfl 34 (.tmp 11) rfl g2 0 rfl E _ RGE.out Tryd.underlying34 rfl IE.out ?_)
              refine (CA.out wr B5.out).mono ?_
              rintro e w6 ⟨F, rfl, hsF, h⟩
              have R9 := Lib.hid (R9.out.below h)
              have R11 := Lib.hid (R11.out.below h)
              have B6 := Lib.hid (B5.out.trans (h.mono B5.out.size))
              have HSF := Lib.hid hsF
              have J := Lib.hid hsF.J
              have Z := Lib.hid hsF.Z
              have O := Lib.hid hsF.O
              clear h hsF B5 RGE CA
              go_wp2_with (with_reducible refine wpList_store_new w6 rfl 34 (.tmp 13) (.tmp 60) rfl _ F.toArray rfl rfl J.out (Eq.trans (b := 73) (by kernel_rfl) Z.out.symm) O.out ?_)
              have ab := (Below.refl w6.heap.size w6).alloc (Nat.le_refl _) (.cells F.toArray 34)
              have r13 := Row.newl w6 F 34
              have r9 := R9.out.below ab
              have r11 := R11.out.below ab
              have b7 := B6.out.trans (ab.mono B6.out.size)
              obtain ⟨g3, hg3⟩ : ∃ x, x = w6.heap.size := ⟨_, rfl⟩
              obtain ⟨V3, hV3⟩ : ∃ x, x = w6.alloc (.cells F.toArray 34) := ⟨_, rfl⟩
              rw [← hV3] at r13 r9 r11 b7 ⊢
              rw [← hg3] at r13 ⊢
              have R13 := Lib.hid r13
              have R9 := Lib.hid r9
              have R11 := Lib.hid r11
              have B7 := Lib.hid b7
              clear ab r13 r9 r11 b7 hV3 hg3 J Z O B6
              refine (CJ1.out V3 B7.out).mono ?_
              rintro e w' ⟨rfl, rfl⟩
              clear CJ1
              go_wp2_with fail
              refine (CJ2.out V3 B7.out).mono ?_
              rintro e w' ⟨rfl, rfl⟩
              clear CJ2
              go_upto_region 18 with fail
              have ex2 : (bstr X2).size = X2.length := bstr_size X2
              have hap := bstr_app X2 ot
              obtain ⟨X3, hX3⟩ : ∃ x, x = X2 ++ ot := ⟨_, rfl⟩
              rw [← hX3] at hap
              have hl3 : X3.length ≤ 5200 := by rw [hX3, List.length_append]; omega
              have HSF3 : Hid (StrC X3 F) := Lib.hid (by rw [hX3]; exact HSF.out)
              have CS9 := Lib.hid (fun (W : World) (hb : Below w.heap.size w W) => hsSSum_c X1 D W HSD.out (by omega) (HT.out.below hb))
              have CS11 := Lib.hid (fun (W : World) (hb : Below w.heap.size w W) => hsSSum_c X2 E W HSE.out (by omega) (HT.out.below hb))
              have CS13 := Lib.hid (fun (W : World) (hb : Below w.heap.size w W) => hsSSum_c X3 F W HSF3.out (by omega) (HT.out.below hb))
              have CR1 := Lib.hid (fun (A : Option Addr) (n c : Nat) (W : World) (hb : Below w.heap.size w W) (hn : X1.length = n) (hl : Lies W A (X1.map bv)) => hrSum_any X1 A n c W hn hl (by omega) (HTR.out.below hb))
              have CR2 := Lib.hid (fun (A : Option Addr) (n c : Nat) (W : World) (hb : Below w.heap.size w W) (hn : X2.length = n) (hl : Lies W A (X2.map bv)) => hrSum_any X2 A n c W hn hl (by omega) (HTR.out.below hb))
              have CR3 := Lib.hid (fun (A : Option Addr) (n c : Nat) (W : World) (hb : Below w.heap.size w W) (hn : X3.length = n) (hl : Lies W A (X3.map bv)) => hrSum_any X3 A n c W hn hl (by omega) (HTR.out.below hb))
              have CH1 := Lib.hid (fun (A : Option Addr) (n c : Nat) (W : World) (hb : Below w.heap.size w W) (hn : X1.length = n) (hl : Lies W A (X1.map bv)) => hsSum_any X1 A n c W hn (fun h => by rw [← hn, hl.none_ h]; rfl) hl (by omega) (HT.out.below hb))
              have hs1 := Sha.sum_len Sha.consts X1
              have hs2 := Sha.sum_len Sha.consts X2
              have hs3 := Sha.sum_len Sha.consts X3
              generalize Sha.sum Sha.consts X1 = S1 at *
              generalize Sha.sum Sha.consts X2 = S2 at *
              generalize Sha.sum Sha.consts X3 = S3 at *
              have h1 : ∀ W, (Op.equalIn 10000 24 (.agg (S1.map bv).toArray) (.agg (S1.map bv).toArray)).run Tryd.prog W = .ok true W := fun W => by rw [run_eq32 W S1 S1 hs1 hs1, decide_eq_true rfl]
              have h2 : ∀ W, (Op.equalIn 10000 24 (.agg (S2.map bv).toArray) (.agg (S2.map bv).toArray)).run Tryd.prog W = .ok true W := fun W => by rw [run_eq32 W S2 S2 hs2 hs2, decide_eq_true rfl]
              have h3 : ∀ W, (Op.equalIn 10000 24 (.agg (S3.map bv).toArray) (.agg (S3.map bv).toArray)).run Tryd.prog W = .ok true W := fun W => by rw [run_eq32 W S3 S3 hs3 hs3, decide_eq_true rfl]
              have kc := conv_bytes
              have ID := Lib.hid HSD.out.I
              have IF := Lib.hid HSF.out.I
              clear hX3 hs1 hs2 hs3 HSF HSF3 HSD HSE HN hkc hnc2 hk0 hkn2 hz
              have RGL := Lib.hid R9.out.range
              go_wp2_with (with_reducible refine wpList_load_mid_g (by kernel_rfl) 34 (.tmp 9) rfl g 0 rfl D _ RGL.out Tryd.underlying34 rfl ID.out ?_)
              refine (CS9.out V3 B7.out).mono ?_
              rintro e p1 ⟨rfl, h⟩
              have R9 := Lib.hid (R9.out.below h)
              have R11 := Lib.hid (R11.out.below h)
              have R13 := Lib.hid (R13.out.below h)
              have B7 := Lib.hid (B7.out.trans (h.mono B7.out.size))
              clear h RGL
              go_wp2_with fail
              have ab := bytesWorld_below p1 (bstr X1)
              refine (CR1.out _ _ _ _ (B7.out.trans (ab.mono B7.out.size)) rfl (bytesWorld_lies p1 X1)).mono ?_
              rintro e q1 ⟨rfl, h⟩
              have R9 := Lib.hid ((R9.out.below ab).below h)
              have R11 := Lib.hid ((R11.out.below ab).below h)
              have R13 := Lib.hid ((R13.out.below ab).below h)
              have B7 := Lib.hid ((B7.out.trans (ab.mono B7.out.size)).trans (h.mono (B7.out.trans (ab.mono B7.out.size)).size))
              clear h ab
              have RGL := Lib.hid R11.out.range
              go_wp2_with (with_reducible refine wpList_load_mid_g (by kernel_rfl) 34 (.tmp 11) rfl g2 0 rfl E _ RGL.out Tryd.underlying34 rfl IE.out ?_)
              refine (CS11.out q1 B7.out).mono ?_
              rintro e p2 ⟨rfl, h⟩
              have R9 := Lib.hid (R9.out.below h)
              have R11 := Lib.hid (R11.out.below h)
              have R13 := Lib.hid (R13.out.below h)
              have B7 := Lib.hid (B7.out.trans (h.mono B7.out.size))
              clear h RGL
              go_wp2_with fail
              have ab := bytesWorld_below p2 (bstr X2)
              refine (CR2.out _ _ _ _ (B7.out.trans (ab.mono B7.out.size)) rfl (bytesWorld_lies p2 X2)).mono ?_
              rintro e q2 ⟨rfl, h⟩
              have R9 := Lib.hid ((R9.out.below ab).below h)
              have R11 := Lib.hid ((R11.out.below ab).below h)
              have R13 := Lib.hid ((R13.out.below ab).below h)
              have B7 := Lib.hid ((B7.out.trans (ab.mono B7.out.size)).trans (h.mono (B7.out.trans (ab.mono B7.out.size)).size))
              clear h ab
              have RGL := Lib.hid R13.out.range
              go_wp2_with (with_reducible refine wpList_load_mid_g (by kernel_rfl) 34 (.tmp 13) rfl g3 0 rfl F _ RGL.out Tryd.underlying34 rfl IF.out ?_)
              refine (CS13.out q2 B7.out).mono ?_
              rintro e p3 ⟨rfl, h⟩
              have R9 := Lib.hid (R9.out.below h)
              have R11 := Lib.hid (R11.out.below h)
              have R13 := Lib.hid (R13.out.below h)
              have B7 := Lib.hid (B7.out.trans (h.mono B7.out.size))
              clear h RGL
              go_wp2_with fail
              have ab := bytesWorld_below p3 (bstr X3)
              refine (CR3.out _ _ _ _ (B7.out.trans (ab.mono B7.out.size)) rfl (bytesWorld_lies p3 X3)).mono ?_
              rintro e q3 ⟨rfl, h⟩
              have R9 := Lib.hid ((R9.out.below ab).below h)
              have R11 := Lib.hid ((R11.out.below ab).below h)
              have R13 := Lib.hid ((R13.out.below ab).below h)
              have B7 := Lib.hid ((B7.out.trans (ab.mono B7.out.size)).trans (h.mono (B7.out.trans (ab.mono B7.out.size)).size))
              clear h ab
              have RGL := Lib.hid R9.out.range
              go_wp2_with (with_reducible refine wpList_load_mid_g (by kernel_rfl) 34 (.tmp 9) rfl g 0 rfl D _ RGL.out Tryd.underlying34 rfl ID.out ?_)
              refine (CS9.out q3 B7.out).mono ?_
              rintro e p4 ⟨rfl, h⟩
              have R9 := Lib.hid (R9.out.below h)
              have R11 := Lib.hid (R11.out.below h)
              have R13 := Lib.hid (R13.out.below h)
              have B7 := Lib.hid (B7.out.trans (h.mono B7.out.size))
              clear h RGL
              go_wp2_with fail
              have ab := bytesWorld_below p4 (bstr X1)
              refine (CH1.out _ _ _ _ (B7.out.trans (ab.mono B7.out.size)) rfl (bytesWorld_lies p4 X1)).mono ?_
              rintro e q4 ⟨rfl, h⟩
              have R9 := Lib.hid ((R9.out.below ab).below h)
              have R11 := Lib.hid ((R11.out.below ab).below h)
              have R13 := Lib.hid ((R13.out.below ab).below h)
              have B7 := Lib.hid ((B7.out.trans (ab.mono B7.out.size)).trans (h.mono (B7.out.trans (ab.mono B7.out.size)).size))
              clear h ab
              go_wp2_with fail
              go_ret
              exact ⟨rfl, B7.out⟩
    · go_wp2_with fail
      go_ret
      exact ⟨rfl, B1.out⟩

end Go.Proofs.YtfaadaahpjpfaaaDoor
