/-
  voxellaw02.HashMacMatchesSpec, its walk.
-/
import Derived.Test.YtfaadaahpjpfaaaDoorHlawb
import Derived.Test.YtfaadaahpjpfaaaDoorHrg
namespace Go.Proofs.YtfaadaahpjpfaaaDoor
open Go.RowKit

set_option maxRecDepth 1000000 in
set_option maxHeartbeats 1000000 in
theorem macSpec_law (a b : List UInt8) (w : World) (hT : Tab w) (hR : TabR w) (ha : a.length ≤ 140737488351232) (hb : b.length ≤ 140737488351232) :
    Calls Tryd.prog 5 #[.string (bstr a), .string (bstr b)] w fun e w' => e = .returned (.bool true) ∧ Below w.heap.size w w' := by
  have ea : (bstr a).size = a.length := bstr_size a
  have eb : (bstr b).size = b.length := bstr_size b
  have C := Lib.hid (sanity_any w hT)
  have HT := Lib.hid hT
  have HR := Lib.hid hR
  clear hT hR
  by_cases h1 : a.length ≤ 400
  · by_cases h2 : b.length ≤ 400
    · have CM := Lib.hid (fun (W : World) (hb : Below w.heap.size w W) => hsMac_any a b W (by omega) (by omega) (HT.out.below hb))
      have CR := Lib.hid (fun (W : World) (hb : Below w.heap.size w W) => hrMac_any a b W (by omega) (by omega) (HR.out.below hb))
      generalize Sha.mac Sha.consts a b = M at CM CR
      have hq : ((bstr M).toList == (bstr M).toList) = true := beq_self_eq_true _
      go_enter Tryd.func5, Tryd.ntmps5
      go_wp2_with fail
      refine C.out.mono ?_
      rintro e w1 ⟨rfl, h⟩
      have B1 := Lib.hid h
      clear h C
      go_wp2_with fail
      refine (CM.out w1 B1.out).mono ?_
      rintro e w2 ⟨rfl, h⟩
      have B2 := Lib.hid (B1.out.trans (h.mono B1.out.size))
      clear h B1
      go_wp2_with fail
      refine (CR.out w2 B2.out).mono ?_
      rintro e w3 ⟨rfl, h⟩
      have B3 := Lib.hid (B2.out.trans (h.mono B2.out.size))
      clear h B2
      go_wp2_with fail
      go_ret
      exact ⟨rfl, B3.out⟩
    · go_enter Tryd.func5, Tryd.ntmps5
      go_wp2_with fail
      refine C.out.mono ?_
      rintro e w1 ⟨rfl, h⟩
      have B1 := Lib.hid h
      clear h C
      go_wp2_with fail
      go_ret
      exact ⟨rfl, B1.out⟩
  · go_enter Tryd.func5, Tryd.ntmps5
    go_wp2_with fail
    refine C.out.mono ?_
    rintro e w1 ⟨rfl, h⟩
    have B1 := Lib.hid h
    clear h C
    go_wp2_with fail
    go_ret
    exact ⟨rfl, B1.out⟩

end Go.Proofs.YtfaadaahpjpfaaaDoor
