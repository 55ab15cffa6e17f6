/-
  voxellaw02.HashOfMatchesSpec, its walk.
-/
import Derived.Test.YtfaadaahpjpfaaaDoorHlawb
import Derived.Test.YtfaadaahpjpfaaaDoorHri
import Derived.Deep.RegionHeldLaw
import Derived.Deep.MidRow
import Derived.BigRegion
namespace Go.Proofs.YtfaadaahpjpfaaaDoor
open Go.RowKit

theorem and255 (t : Int) : bits .and .i64 t 255 = t % 256 := by
  show IntKind.i64.wrap ((BitVec.ofInt 64 t &&& BitVec.ofInt 64 255).toNat : Int) = _
  have e : (BitVec.ofInt 64 255).toNat = 2 ^ 8 - 1 := by decide
  rw [BitVec.toNat_and, e, Nat.and_two_pow_sub_one_eq_mod, BitVec.toNat_ofInt]
  simp [IntKind.wrap, IntKind.bits, IntKind.signed]
  omega
theorem inOf_mod (t : Int) (l : List (List UInt8)) : inOf (t % 256) l = inOf t l := by
  unfold inOf; rw [Int.emod_emod_of_dvd _ (by decide)]

set_option maxRecDepth 1000000 in
set_option maxHeartbeats 1000000 in
theorem ofSpec_law (tag : Int) (l : List (List UInt8)) (A : Option Addr) (n c : Nat) (w : World) (hT : Tab w) (hR : TabR w) (hn : l.length = n) (hl : Lies w A (l.map sv)) (hs : ∀ s ∈ l, s.length ≤ 140737488351232) (hnb : n ≤ 140737488351232) :
    Calls Tryd.prog 7 #[.int .i64 tag, .slice A n c] w fun e w' => e = .returned (.bool true) ∧ Below w.heap.size w w' := by
  have C := Lib.hid (sanity_any w hT)
  have CF := Lib.hid (fun (W : World) (hb : Below w.heap.size w W) => hrFew_any l A n c W hn (hl.below hb) hs hnb)
  have CO : Hid (Few l → ∀ (t : Int) (W : World) (hb : Below w.heap.size w W), Calls Tryd.prog 21 #[.int .i64 t, .slice A n c] W fun e w' => e = .returned (.agg (((Sha.sum Sha.consts (inOf t l)).take 16).map bv).toArray) ∧ Below W.heap.size W w') :=
    Lib.hid (fun hf t W hb => hsOf_any t l A n c W hn (hl.below hb) hf.small (hT.below hb))
  have CR : Hid (Few l → ∀ (W : World) (hb : Below w.heap.size w W), Calls Tryd.prog 22 #[.int .i64 tag, .slice A n c] W fun e w' => e = .returned (.agg (((Sha.sum Sha.consts (inOf tag l)).take 16).map bv).toArray) ∧ Below W.heap.size W w') :=
    Lib.hid (fun hf W hb => hrOf_any tag l A n c W hn (hl.below hb) hf.small (hR.below hb))
  have CO1 := Lib.hid (fun hf => CO.out hf tag)
  have CO2 := Lib.hid (fun hf => CO.out hf (tag % 256))
  rw [inOf_mod] at CO2
  have hol := Sha.sum_len Sha.consts (inOf tag l)
  obtain ⟨S1, ho⟩ : ∃ x, x = (Sha.sum Sha.consts (inOf tag l)).take 16 := ⟨_, rfl⟩
  have hsl : S1.length = 16 := by rw [ho, List.length_take, hol]; rfl
  rw [← ho] at CR CO1 CO2
  have HSL := Lib.hid hsl
  have J16 := Lib.hid (show (Tryd.prog.info? 44).map (·.size) = some (S1.map bv).toArray.size by rw [List.size_toArray, List.length_map, hsl]; kernel_rfl)
  have S16 := Lib.hid (show (S1.map bv).toArray.size = 16 by rw [List.size_toArray, List.length_map, hsl])
  have O16 := Lib.hid (all_oneCell_toArray (bvs_one S1))
  have HI := Lib.hid (show (Tryd.prog.info? 44).map (·.size) = some (S1.map bv).length by rw [List.length_map, hsl]; kernel_rfl)
  clear hT hR hn hl hs hnb CO hol ho hsl
  go_enter Tryd.func7, Tryd.ntmps7
  go_wp2_with fail
  refine C.out.mono ?_
  rintro e w1 ⟨rfl, h⟩
  have B1 := Lib.hid h
  clear h C
  go_wp2_with fail
  refine (CF.out w1 B1.out).mono ?_
  rintro e w' ⟨b, rfl, hf, rfl⟩
  clear CF
  cases b with
  | false =>
    go_wp2_with fail
    go_ret
    exact ⟨rfl, B1.out⟩
  | true =>
    have HF := Lib.hid (hf rfl)
    clear hf
    go_wp2_with fail
    refine (CO1.out HF.out w1 B1.out).mono ?_
    rintro e w2 ⟨rfl, h⟩
    have B2 := Lib.hid (B1.out.trans (h.mono B1.out.size))
    clear h B1
    go_upto_region 5 with (with_reducible refine wpList_store_new w2 rfl 44 (.tmp 6) (.tmp 14) rfl _ (S1.map bv).toArray rfl rfl J16.out (Eq.trans (b := 16) (by kernel_rfl) S16.out.symm) O16.out ?_)
    have hv2 := Row.newl w2 (S1.map bv) 44
    have hb2 := B2.out.alloc B2.out.size (.cells (S1.map bv).toArray 44)
    obtain ⟨g, hg⟩ : ∃ x, x = w2.heap.size := ⟨_, rfl⟩
    obtain ⟨V, hV⟩ : ∃ x, x = w2.alloc (.cells (S1.map bv).toArray 44) := ⟨_, rfl⟩
    rw [← hV] at hb2 ⊢
    rw [← hg]
    rw [← hV, ← hg] at hv2
    clear hV hg B2
    have HS : Hid (∀ w', Below V.heap.size V w' → Below w.heap.size w w') := Lib.hid (fun w' hb => hb2.trans (hb.mono hb2.size))
    have HB0 := Lib.hid (below_drew (Below.refl V.heap.size V))
    have h24 : ∀ W, (Op.equalIn 10000 44 (.agg (S1.map bv).toArray) (.agg (S1.map bv).toArray)).run Tryd.prog W = .ok true W := fun W => by
      rw [run_eq16 W S1 S1 HSL.out HSL.out, decide_eq_true rfl]
    have ha := and255 tag
    clear hb2 J16 S16 O16
    have HV2 := Lib.hid hv2
    clear hv2
    refine wp_region_held_drew (S := fun w' => w'.rangeAt g 0 (S1.map bv) ∧ Below w.heap.size w w') (by kernel_rfl) ?_ (fun hHeld => ?_)
    · exact ⟨(HV2.out.below HB0.out).range, HS.out _ HB0.out⟩
    refine wpAnyH_take (i := 0) rfl (by kernel_rfl) (by kernel_rfl) (by kernel_rfl) (fun _ _ _ h => h) (Or.inl ⟨rfl, fun _ _ => rfl⟩) (by assumption) ?_
    refine wpAnyH_take (i := 1) rfl (by kernel_rfl) (by kernel_rfl) (by kernel_rfl) (fun _ _ _ h => h) (Or.inl ⟨rfl, fun _ _ => rfl⟩) (by assumption) ?_
    refine wpAnyH_take (i := 2) rfl (by kernel_rfl) (by kernel_rfl) (by kernel_rfl) (fun _ _ _ h => h) (yieldsIf_load_mid (by rfl) 44 (.tmp 6) rfl g 0 rfl (S1.map bv) _ (fun _ h => h.1) Tryd.underlying44 rfl HI.out) (by assumption) ?_
    refine wpAnyH_take (i := 3) rfl (by kernel_rfl) (by kernel_rfl) (by kernel_rfl) (fun _ _ _ h => h) (Or.inl ⟨rfl, fun _ _ => rfl⟩) (by assumption) ?_
    refine wpAnyH_take (i := 4) rfl (by kernel_rfl) (by kernel_rfl) (by kernel_rfl) (fun _ _ _ h => h) (Or.inl ⟨rfl, fun _ _ => rfl⟩) (by assumption) ?_
    refine wpAnyH_ready (rs := [5]) (by kernel_rfl) (by simp) ?_
    refine AllReadyH.cons rfl (fun K hK => ?_) AllReadyH.nil
    go_simp
    refine (CR.out HF.out _ (HS.out _ HB0.out)).mono ?_; rintro e w7 ⟨rfl, b7⟩; have b7 := Lib.hid (HB0.out.trans (b7.mono HB0.out.size))
    go_wp2_with fail
    refine hK.out _ _ ?_ (fun hHeld => ?_)
    · exact ⟨(HV2.out.below b7.out).range, HS.out _ b7.out⟩
    clear hK K
    refine wpAnyH_take (i := 6) (v := .bool true) rfl (by kernel_rfl) (by kernel_rfl) (by kernel_rfl) (fun _ _ _ h => h) (Or.inl ⟨by rfl, by intro W _; go_simp⟩) (by assumption) ?_
    refine wpAnyH_take (i := 7) rfl (by kernel_rfl) (by kernel_rfl) (by kernel_rfl) (fun _ _ _ h => h) (Or.inl ⟨rfl, fun _ _ => rfl⟩) (by assumption) ?_
    refine wpAnyH_take (i := 8) rfl (by kernel_rfl) (by kernel_rfl) (by kernel_rfl) (fun _ _ _ h => h) (Or.inl ⟨rfl, fun _ _ => rfl⟩) (by assumption) ?_
    refine wpAnyH_take (i := 9) rfl (by kernel_rfl) (by kernel_rfl) (by kernel_rfl) (fun _ _ _ h => h) (yieldsIf_load_mid (by rfl) 44 (.tmp 6) rfl g 0 rfl (S1.map bv) _ (fun _ h => h.1) Tryd.underlying44 rfl HI.out) (by assumption) ?_
    refine wpAnyH_take (i := 10) rfl (by kernel_rfl) (by kernel_rfl) (by kernel_rfl) (fun _ _ _ h => h) (Or.inl ⟨rfl, fun _ _ => rfl⟩) (by assumption) ?_
    refine wpAnyH_take (i := 11) (v := .int .i64 (tag % 256)) rfl (by kernel_rfl) (by kernel_rfl) (by kernel_rfl) (fun _ _ _ h => h) (Or.inl ⟨by rfl, by intro W _; go_simp⟩) (by assumption) ?_
    refine wpAnyH_take (i := 12) rfl (by kernel_rfl) (by kernel_rfl) (by kernel_rfl) (fun _ _ _ h => h) (Or.inl ⟨rfl, fun _ _ => rfl⟩) (by assumption) ?_
    refine wpAnyH_ready (rs := [13]) (by kernel_rfl) (by simp) ?_
    refine AllReadyH.cons rfl (fun K hK => ?_) AllReadyH.nil
    go_simp
    refine (CO2.out HF.out _ (HS.out _ b7.out)).mono ?_; rintro e w8 ⟨rfl, b8⟩; have b8 := Lib.hid (b7.out.trans (b8.mono b7.out.size))
    go_wp2_with fail
    refine hK.out _ _ ?_ (fun hHeld => ?_)
    · exact ⟨(HV2.out.below b8.out).range, HS.out _ b8.out⟩
    clear hK K
    refine wpAnyH_take (i := 14) (v := .bool true) rfl (by kernel_rfl) (by kernel_rfl) (by kernel_rfl) (fun _ _ _ h => h) (Or.inl ⟨by rfl, by intro W _; go_simp⟩) (by assumption) ?_
    refine wpAnyH_take (i := 15) rfl (by kernel_rfl) (by kernel_rfl) (by kernel_rfl) (fun _ _ _ h => h) (Or.inl ⟨rfl, fun _ _ => rfl⟩) (by assumption) ?_
    refine wpAnyH_take (i := 16) rfl (by kernel_rfl) (by kernel_rfl) (by kernel_rfl) (fun _ _ _ h => h) (Or.inl ⟨rfl, fun _ _ => rfl⟩) (by assumption) ?_
    refine wpAnyH_done (by kernel_rfl) ?_ _
    go_wp2
    go_ret
    exact ⟨rfl, HS.out _ b8.out⟩

end Go.Proofs.YtfaadaahpjpfaaaDoor
