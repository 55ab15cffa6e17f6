/-
  voxellaw02.HashSumMatchesSpec, its walk.
-/
import Derived.Test.YtfaadaahpjpfaaaDoorHlawb
import Derived.Test.YtfaadaahpjpfaaaDoorHre
import Derived.Deep.RegionHeldLaw
import Derived.BigRegion
namespace Go.Proofs.YtfaadaahpjpfaaaDoor
open Go.RowKit
attribute [local go_sem ↓] convRun_eq

theorem bytes_from {w V : World} (hb : Below w.heap.size w V) (s : ByteArray) : Below w.heap.size w (Lib.bytesWorld V 5 s) := hb.trans ((bytesWorld_below V s).mono hb.size)

set_option maxRecDepth 1000000 in
set_option maxHeartbeats 1000000 in
theorem sumSpec_law (l : List UInt8) (A : Option Addr) (n c : Nat) (w : World) (hT : Tab w) (hR : TabR w) (hn : l.length = n) (hl : Lies w A (l.map bv)) (hA : A = none → n = 0) (hc : n ≤ 140737488351232) :
    Calls Tryd.prog 3 #[.slice A n c] w fun e w' => e = .returned (.bool true) ∧ Below w.heap.size w w' := by
  have C := Lib.hid (sanity_any w hT)
  have HT := Lib.hid hT
  have HR := Lib.hid hR
  have HN := Lib.hid hn
  have HL := Lib.hid hl
  have HA := Lib.hid hA
  clear hT hR hn hl hA
  by_cases h1 : n ≤ 1000
  · have CS := Lib.hid (fun (W : World) (hb : Below w.heap.size w W) => hsSum_any l A n c W HN.out HA.out (HL.out.below hb) (by omega) (HT.out.below hb))
    have CR := Lib.hid (fun (A : Option Addr) (n2 c : Nat) (W : World) (hb : Below w.heap.size w W) (hn : l.length = n2) (hl : Lies W A (l.map bv)) => hrSum_any l A n2 c W hn hl (by have := HN.out; omega) (HR.out.below hb))
    have hsl := Sha.sum_len Sha.consts l
    generalize Sha.sum Sha.consts l = S1 at CS CR hsl
    have HSL := Lib.hid hsl
    have J32 := Lib.hid (show (Tryd.prog.info? 24).map (·.size) = some (S1.map bv).toArray.size by rw [List.size_toArray, List.length_map, hsl]; kernel_rfl)
    have S32 := Lib.hid (show (S1.map bv).toArray.size = 32 by rw [List.size_toArray, List.length_map, hsl])
    have O32 := Lib.hid (all_oneCell_toArray (bvs_one S1))
    have hi32 : (Tryd.prog.info? 24).map (·.size) = some (S1.map bv).length := by rw [List.length_map, hsl]; kernel_rfl
    have HI := Lib.hid hi32
    clear hsl hi32
    go_enter Tryd.func3, Tryd.ntmps3
    go_wp2_with fail
    refine C.out.mono ?_
    rintro e w1 ⟨rfl, h⟩
    have B1 := Lib.hid h
    have e1 := convRun_lies w1 A n c l HN.out HA.out (HL.out.below h)
    clear h C
    go_wp2_with fail
    refine (CS.out w1 B1.out).mono ?_
    rintro e w2 ⟨rfl, h⟩
    have B2 := Lib.hid (B1.out.trans (h.mono B1.out.size))
    clear h B1 e1
    go_upto_region 6 with (with_reducible refine wpList_store_new w2 rfl 24 (.tmp 5) (.tmp 14) rfl _ (S1.map bv).toArray rfl rfl J32.out (Eq.trans (b := 32) (by kernel_rfl) S32.out.symm) O32.out ?_)
    have hv2 := Row.newl w2 (S1.map bv) 24
    have hb2 := B2.out.alloc B2.out.size (.cells (S1.map bv).toArray 24)
    obtain ⟨g, hg⟩ : ∃ x, x = w2.heap.size := ⟨_, rfl⟩
    obtain ⟨V, hV⟩ : ∃ x, x = w2.alloc (.cells (S1.map bv).toArray 24) := ⟨_, rfl⟩
    rw [← hV] at hb2 ⊢
    rw [← hg]
    rw [← hV, ← hg] at hv2
    clear hV hg B2
    have HS : Hid (∀ w', Below V.heap.size V w' → w'.rangeAt g 0 (S1.map bv) ∧ convRun (.slice A n c) w' = .ok (.string (bstr l)) w' ∧ Below w.heap.size w w') :=
      Lib.hid (fun w' hb => ⟨(hv2.below hb).range, convRun_lies w' A n c l HN.out HA.out ((HL.out.below hb2).below hb), hb2.trans (hb.mono hb2.size)⟩)
    have HB0 := Lib.hid (below_drew (Below.refl V.heap.size V))
    have HB1 := Lib.hid (bytes_from HB0.out (bstr l))
    have HB2 := Lib.hid (hb2.trans (HB1.out.mono hb2.size))
    have HL1 := Lib.hid (bytesWorld_lies V.drew l)
    have hi32 := HI.out
    have hu32 := Tryd.underlying24
    have h24 : ∀ W, (Op.equalIn 10000 24 (.agg (S1.map bv).toArray) (.agg (S1.map bv).toArray)).run Tryd.prog W = .ok true W := fun W => by
      rw [run_eq32 W S1 S1 HSL.out HSL.out, decide_eq_true rfl]
    have hq : ((bstr l).toList == (bstr l).toList) = true := beq_self_eq_true _
    have kc := conv_bytes
    clear hv2 hb2 J32 S32 O32 CS
    go_region_held_law (fun w' => w'.rangeAt g 0 (S1.map bv) ∧ convRun (.slice A n c) w' = .ok (.string (bstr l)) w' ∧ Below w.heap.size w w')
      (first
        | exact HS.out _ HB0.out
        | exact HS.out _ HB1.out
        | exact HS.out _ b7.out)
      (first
        | (go_at_call 12; refine (CR.out _ _ _ _ HB2.out rfl HL1.out).mono ?_; rintro e w7 ⟨rfl, b7⟩; have b7 := Lib.hid (HB1.out.trans (b7.mono HB1.out.size))))
    have hh : w7.rangeAt g 0 (S1.map bv) ∧ convRun (.slice A n c) w7 = .ok (.string (bstr l)) w7 ∧ Below w.heap.size w w7 := by assumption
    have hb := Lib.hid hh.2.2
    clear hh
    go_wp2
    go_ret
    exact ⟨rfl, hb.out⟩
  · go_enter Tryd.func3, Tryd.ntmps3
    go_wp2_with fail
    refine C.out.mono ?_
    rintro e w1 ⟨rfl, h⟩
    have B1 := Lib.hid h
    clear h C
    go_wp2_with fail
    go_ret
    exact ⟨rfl, B1.out⟩

end Go.Proofs.YtfaadaahpjpfaaaDoor
