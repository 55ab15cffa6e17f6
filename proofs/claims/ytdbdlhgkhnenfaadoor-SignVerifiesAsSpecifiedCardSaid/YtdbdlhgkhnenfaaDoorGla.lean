/-
  voxellaw03.SignVerifiesAsSpecified, its walk.
-/
import Derived.Test.YtdbdlhgkhnenfaaDoorGst
import Derived.Test.YtdbdlhgkhnenfaaDoorGsy
namespace Go.Proofs.YtdbdlhgkhnenfaaDoor
open Go.RowKit

set_option maxRecDepth 1000000 in
set_option maxHeartbeats 4000000 in
theorem signVerifies_law (p : List UInt8) (h : Int) (m s : List UInt8) (w : World) (hT : Tab w) (hR : TabR w) (hp : p.length = 16) (hm : m.length ≤ 140737488351232) (hs : s.length ≤ 140737488351232) :
    Calls Tryd.prog 5 #[.agg (p.map bv).toArray, .int .i64 h, .string (bstr m), .string (bstr s)] w
      fun e w' => e = .returned (.bool true) ∧ Below w.heap.size w w' := by
  have em : (bstr m).size = m.length := bstr_size m
  have es : (bstr s).size = s.length := bstr_size s
  have BX := Lib.hid (Row.newl w (p.map bv) 23)
  have g0 := Gr.al w (.cells (p.map bv).toArray 23)
  obtain ⟨u, hu⟩ : ∃ x, x = w.alloc (.cells (p.map bv).toArray 23) := ⟨_, rfl⟩
  rw [← hu] at BX g0
  have HU := Lib.hid hu
  have C := Lib.hid (sanity_any u (hT.below g0))
  have B0 : Hid (Below w.heap.size w u) := Lib.hid g0
  have DP := Lib.hid (D16.of hp)
  have HT := Lib.hid hT
  have HR := Lib.hid hR
  obtain ⟨q, hq⟩ : ∃ x, x = w.heap.size := ⟨_, rfl⟩
  rw [← hq] at BX
  have HQ := Lib.hid hq
  clear hu g0 hq hT hR
  by_cases h1 : m.length ≤ 200
  · by_cases h2 : s.length ≤ 800
    · have V := Lib.hid (fun (W : World) (ht : Tab W) => verify_any p h m s W hp (by omega) (by omega) ht)
      have RV := Lib.hid (fun (W : World) (ht : TabR W) => rverify_any p h m s W hp (by omega) (by omega) ht)
      generalize Sg.verify p h m s = R at *
      obtain ⟨i, c⟩ := R
      unfold verV at V RV
      clear hp hm hs
      go_enter Tryd.func5, Tryd.ntmps5
      go_upto_region 1 with fail
      rw [← HU.out, ← HQ.out]
      clear HU HQ
      go_wp2_with fail
      refine C.out.mono ?_
      rintro e w1 ⟨rfl, b1⟩
      have B1 := Lib.hid (B0.out.trans (b1.mono B0.out.size))
      have X1 := Lib.hid (BX.out.below b1)
      clear b1 C B0 BX
      go_wp2_with (with_reducible refine wpList_load_mid rfl 23 (.tmp 4) rfl q 0 rfl (p.map bv) _ X1.out.range Tryd.underlying23 rfl DP.out.I ?_)
      refine (V.out w1 (HT.out.below B1.out)).mono ?_
      rintro e w2 ⟨rfl, b2⟩
      have B2 := Lib.hid (B1.out.trans (b2.mono B1.out.size))
      have X2 := Lib.hid (X1.out.below b2)
      clear b2 B1 X1
      go_wp2_with (with_reducible refine wpList_load_mid rfl 23 (.tmp 4) rfl q 0 rfl (p.map bv) _ X2.out.range Tryd.underlying23 rfl DP.out.I ?_)
      refine (RV.out w2 (HR.out.below B2.out)).mono ?_
      rintro e w3 ⟨rfl, b3⟩
      have B3 := Lib.hid (B2.out.trans (b3.mono B2.out.size))
      clear b3 B2 X2
      go_wp2_with fail
      go_ret
      exact ⟨rfl, B3.out⟩
    · go_enter Tryd.func5, Tryd.ntmps5
      go_upto_region 1 with fail
      rw [← HU.out, ← HQ.out]
      clear HU HQ
      go_wp2_with fail
      refine C.out.mono ?_
      rintro e w1 ⟨rfl, b1⟩
      have B1 := Lib.hid (B0.out.trans (b1.mono B0.out.size))
      clear b1 C B0
      go_wp2_with fail
      go_ret
      exact ⟨rfl, B1.out⟩
  · go_enter Tryd.func5, Tryd.ntmps5
    go_upto_region 1 with fail
    rw [← HU.out, ← HQ.out]
    clear HU HQ
    go_wp2_with fail
    refine C.out.mono ?_
    rintro e w1 ⟨rfl, b1⟩
    have B1 := Lib.hid (B0.out.trans (b1.mono B0.out.size))
    clear b1 C B0
    go_wp2_with fail
    go_ret
    exact ⟨rfl, B1.out⟩
end Go.Proofs.YtdbdlhgkhnenfaaDoor
