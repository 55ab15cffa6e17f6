/-
  voxellaw02.HashEqualIsEquality, its walk.
-/
import Derived.Test.YtfaadaahpjpfaaaDoorSanh
namespace Go.Proofs.YtfaadaahpjpfaaaDoor
open Go.RowKit

theorem bstr_add (l : List UInt8) : bstr l ++ { data := #[] } = bstr l := ByteArray.append_empty
theorem bstr_toList (l : List UInt8) : (bstr l).toList = l := by rw [ByteArray.toList_eq]; rfl

set_option maxRecDepth 1000000 in
set_option maxHeartbeats 1000000 in
theorem hashEqual_law (a b : List UInt8) (w : World) (hT : Tab w) (ha : a.length ≤ 140737488351232) (hb : b.length ≤ 140737488351232) :
    Calls Tryd.prog 9 #[.string (bstr a), .string (bstr b)] w fun e w' => e = .returned (.bool true) ∧ Below w.heap.size w w' := by
  have ea : (bstr a).size = a.length := bstr_size a
  have eb : (bstr b).size = b.length := bstr_size b
  have C := Lib.hid (sanity_any w hT)
  clear hT
  by_cases h1 : a.length ≤ 400
  · by_cases h2 : b.length ≤ 400
    · go_enter Tryd.func9, Tryd.ntmps9
      go_wp2_with fail
      refine C.out.mono ?_
      rintro e w1 ⟨rfl, h⟩
      have B1 := Lib.hid h
      clear h C
      go_wp2_with fail
      refine (hsEqual_any a b w1 (by omega)).mono ?_
      rintro e w2 ⟨rfl, h⟩
      have B2 := Lib.hid (B1.out.trans (h.mono B1.out.size))
      clear h B1
      go_wp2_with fail
      refine (hsEqual_any b a w2 (by omega)).mono ?_
      rintro e w3 ⟨rfl, h⟩
      have B3 := Lib.hid (B2.out.trans (h.mono B2.out.size))
      clear h B2
      go_wp2_with fail
      rw [bstr_add]
      refine (hsEqual_any a a w3 (by omega)).mono ?_
      rintro e w4 ⟨rfl, h⟩
      have B4 := Lib.hid (B3.out.trans (h.mono B3.out.size))
      clear h B3
      by_cases h : a = b
      · subst h
        rw [decide_eq_true rfl]
        go_wp2_with fail
        go_ret
        exact ⟨rfl, B4.out⟩
      · have hq : ((bstr a).toList == (bstr b).toList) = false := by rw [bstr_toList, bstr_toList]; exact beq_eq_false_iff_ne.2 h
        rw [decide_eq_false h, show decide (b = a) = false from decide_eq_false (fun h2 => h h2.symm), show decide (a = a) = true from decide_eq_true rfl]
        go_wp2_with fail
        go_ret
        exact ⟨rfl, B4.out⟩
    · go_enter Tryd.func9, Tryd.ntmps9
      go_wp2_with fail
      refine C.out.mono ?_
      rintro e w1 ⟨rfl, h⟩
      have B1 := Lib.hid h
      clear h C
      go_wp2_with fail
      go_ret
      exact ⟨rfl, B1.out⟩
  · go_enter Tryd.func9, Tryd.ntmps9
    go_wp2_with fail
    refine C.out.mono ?_
    rintro e w1 ⟨rfl, h⟩
    have B1 := Lib.hid h
    clear h C
    go_wp2_with fail
    go_ret
    exact ⟨rfl, B1.out⟩

end Go.Proofs.YtfaadaahpjpfaaaDoor
