/-
  voxellaw02.HashMacKeys, its walk.
-/
import Derived.Test.YtfaadaahpjpfaaaDoorHlawa
import Derived.Lib.ConvBytes
namespace Go.Proofs.YtfaadaahpjpfaaaDoor
open Go.RowKit

/-- the bytes of a string, as a conversion lays them -/
theorem bytesWorld_lies (w : World) (l : List UInt8) : Lies (Lib.bytesWorld w 5 (bstr l)) (some ⟨w.heap.size, 0, none⟩) (l.map bv) := by
  refine .inr ⟨_, _, rfl, fun j u hu => ?_⟩
  rw [List.getElem?_map] at hu
  obtain ⟨x, hx, rfl⟩ := Option.map_eq_some_iff.1 hu
  have hj := (List.getElem?_eq_some_iff.1 hx).1
  rw [Nat.zero_add, Lib.bytesWorld_cell w 5 (bstr l) j (by rw [bstr_size]; exact hj)]
  show some (Value.int .u8 ((l.getD j 0).toNat : Int)) = _
  rw [List.getD_eq_getElem?_getD, hx]; rfl
theorem bytesWorld_below (w : World) (s : ByteArray) : Below w.heap.size w (Lib.bytesWorld w 5 s) :=
  ⟨rfl, rfl, rfl, by rw [Lib.bytesWorld_size]; omega, fun k hk => Lib.bytesWorld_at_old w 5 s k hk⟩
theorem conv_bytes (w : World) (s : ByteArray) : (convert 9 22 (.string s)).run Tryd.prog w = .ok (.slice (some ⟨w.heap.size, 0, none⟩) s.size (grownCap w s.size 0 5)) (Lib.bytesWorld w 5 s) :=
  Lib.run_convert_string_bytes w 9 22 5 s Tryd.underlying9 Tryd.underlying22 Tryd.underlying5
theorem bstr_app (l m : List UInt8) : bstr l ++ bstr m = bstr (l ++ m) := by
  apply ByteArray.ext
  simp [bstr]

set_option maxRecDepth 1000000 in
set_option maxHeartbeats 1000000 in
theorem macKeys_law (a b : List UInt8) (w : World) (hT : Tab w) (ha : a.length ≤ 140737488351232) (hb : b.length ≤ 140737488351232) :
    Calls Tryd.prog 6 #[.string (bstr a), .string (bstr b)] w fun e w' => e = .returned (.bool true) ∧ Below w.heap.size w w' := by
  have ea : (bstr a).size = a.length := bstr_size a
  have eb : (bstr b).size = b.length := bstr_size b
  have C := Lib.hid (sanity_any w hT)
  have HT := Lib.hid hT
  clear hT
  by_cases h1 : a.length ≤ 400
  · by_cases h2 : b.length ≤ 400
    · obtain ⟨M, hM⟩ : ∃ x, x = Sha.mac Sha.consts a b := ⟨_, rfl⟩
      have hml : M.length = 32 := by rw [hM]; exact Sha.mac_len _ _ _
      have CM := Lib.hid (fun (W : World) (hb : Below w.heap.size w W) => hsMac_any a b W (by omega) (by omega) (HT.out.below hb))
      rw [← hM] at CM
      have HM := Lib.hid hM
      clear hM
      by_cases h64 : 64 < a.length
      · have hne : ¬ a.length < 64 := by omega
        have CM2 := Lib.hid (fun (W : World) (hb : Below w.heap.size w W) => hsMac_any (Sha.sum Sha.consts a) b W (by rw [Sha.sum_len]; omega) (by omega) (HT.out.below hb))
        rw [← Sha.mac_long _ _ _ h64, ← HM.out] at CM2
        have CS := Lib.hid (fun (W : World) (hb : Below w.heap.size w W) => hsSum_any a (some ⟨W.heap.size, 0, none⟩) a.length (grownCap W a.length 0 5) (Lib.bytesWorld W 5 (bstr a)) rfl (fun h => by cases h) (bytesWorld_lies W a) (by omega) (HT.out.below (hb.trans ((bytesWorld_below W (bstr a)).mono hb.size))))
        have hsl := Sha.sum_len Sha.consts a
        generalize Sha.sum Sha.consts a = S1 at CM2 CS hsl
        have HSL := Lib.hid hsl
        have kc := conv_bytes
        have hq : ((bstr M).toList == (bstr M).toList) = true := beq_self_eq_true _
        clear hsl hml
        go_enter Tryd.func6, Tryd.ntmps6
        go_wp2_with fail
        refine C.out.mono ?_
        rintro e w1 ⟨rfl, h⟩
        have B1 := Lib.hid h
        clear h C
        go_wp2_with fail
        refine (CM.out w1 B1.out).mono ?_
        rintro e w2 ⟨rfl, h⟩
        have B2 := Lib.hid (B1.out.trans (h.mono B1.out.size))
        clear h B1
        go_wp2_with fail
        refine (CS.out w2 B2.out).mono ?_
        rintro e w3 ⟨rfl, h⟩
        have B3 := Lib.hid (B2.out.trans (((bytesWorld_below w2 (bstr a)).trans (h.mono (bytesWorld_below w2 (bstr a)).size)).mono B2.out.size))
        clear h B2
        go_wp2_with fail
        refine (hrBytes32_any S1 w3 HSL.out).mono ?_
        rintro e w4 ⟨rfl, h⟩
        have B4 := Lib.hid (B3.out.trans (h.mono B3.out.size))
        clear h B3
        go_wp2_with fail
        refine (CM2.out w4 B4.out).mono ?_
        rintro e w5 ⟨rfl, h⟩
        have B5 := Lib.hid (B4.out.trans (h.mono B4.out.size))
        clear h B4
        go_wp2_with fail
        go_ret
        exact ⟨rfl, B5.out⟩
      · by_cases hlt : a.length < 64
        · have CM2 := Lib.hid (fun (W : World) (hb : Below w.heap.size w W) => hsMac_any (a ++ [0]) b W (by simp; omega) (by omega) (HT.out.below hb))
          rw [← Sha.mac_short _ _ _ hlt, ← HM.out] at CM2
          have hap : bstr a ++ { data := #[0] } = bstr (a ++ [0]) := bstr_app a [0]
          generalize bstr (a ++ [0]) = k2 at CM2 hap
          have hq : ((bstr M).toList == (bstr M).toList) = true := beq_self_eq_true _
          clear hml
          go_enter Tryd.func6, Tryd.ntmps6
          go_wp2_with fail
          refine C.out.mono ?_
          rintro e w1 ⟨rfl, h⟩
          have B1 := Lib.hid h
          clear h C
          go_wp2_with fail
          refine (CM.out w1 B1.out).mono ?_
          rintro e w2 ⟨rfl, h⟩
          have B2 := Lib.hid (B1.out.trans (h.mono B1.out.size))
          clear h B1
          go_wp2_with fail
          refine (CM2.out w2 B2.out).mono ?_
          rintro e w5 ⟨rfl, h⟩
          have B5 := Lib.hid (B2.out.trans (h.mono B2.out.size))
          clear h B2
          go_wp2_with fail
          go_ret
          exact ⟨rfl, B5.out⟩
        · have hms : (bstr M).size = 32 := by rw [bstr_size]; exact hml
          clear hml
          go_enter Tryd.func6, Tryd.ntmps6
          go_wp2_with fail
          refine C.out.mono ?_
          rintro e w1 ⟨rfl, h⟩
          have B1 := Lib.hid h
          clear h C
          go_wp2_with fail
          refine (CM.out w1 B1.out).mono ?_
          rintro e w2 ⟨rfl, h⟩
          have B2 := Lib.hid (B1.out.trans (h.mono B1.out.size))
          clear h B1
          go_wp2_with fail
          go_ret
          exact ⟨rfl, B2.out⟩
    · go_enter Tryd.func6, Tryd.ntmps6
      go_wp2_with fail
      refine C.out.mono ?_
      rintro e w1 ⟨rfl, h⟩
      have B1 := Lib.hid h
      clear h C
      go_wp2_with fail
      go_ret
      exact ⟨rfl, B1.out⟩
  · go_enter Tryd.func6, Tryd.ntmps6
    go_wp2_with fail
    refine C.out.mono ?_
    rintro e w1 ⟨rfl, h⟩
    have B1 := Lib.hid h
    clear h C
    go_wp2_with fail
    go_ret
    exact ⟨rfl, B1.out⟩

end Go.Proofs.YtfaadaahpjpfaaaDoor
