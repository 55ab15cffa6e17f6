/-
  Contracts of package hash: equality.
-/
import Derived.Test.YtfaadaahpjpfaaaDoorHsm
namespace Go.Proofs.YtfaadaahpjpfaaaDoor
open Go.RowKit

theorem u8_or (a b : UInt8) : bits .or .u8 (a.toNat : Int) (b.toNat : Int) = ((a ||| b).toNat : Int) := by
  show IntKind.u8.wrap ((BitVec.ofInt 8 (a.toNat : Int) ||| BitVec.ofInt 8 (b.toNat : Int)).toNat : Int) = _
  have e : ∀ x : UInt8, BitVec.ofInt 8 (x.toNat : Int) = x.toBitVec := by
    intro x
    apply BitVec.eq_of_toNat_eq
    rw [BitVec.toNat_ofInt]
    have := x.toNat_lt
    show ((x.toNat : Int) % 256).toNat = x.toNat
    omega
  rw [e, e]
  have h := (a ||| b).toNat_lt
  have h2 : (a.toBitVec ||| b.toBitVec).toNat = (a ||| b).toNat := rfl
  rw [h2]
  generalize (a ||| b).toNat = z at h ⊢
  simp [IntKind.wrap, IntKind.signed, IntKind.bits]
  omega

theorem bstr_get (l : List UInt8) (k : Nat) (h : k < (bstr l).size) : (bstr l)[k] = l.getD k 0 := by
  have h2 : k < l.length := by rw [← bstr_size]; exact h
  rw [List.getD_eq_getElem?_getD, List.getElem?_eq_getElem h2]
  rfl

/-- the bits in which the first k bytes differ -/
def dif (a b : List UInt8) : Nat → UInt8
  | 0 => 0
  | k + 1 => dif a b k ||| (a.getD k 0 ^^^ b.getD k 0)
theorem dif_zero (a b : List UInt8) : ∀ k, dif a b k = 0 ↔ ∀ i, i < k → a.getD i 0 = b.getD i 0
  | 0 => by simp [dif]
  | k + 1 => by
    rw [dif, UInt8.or_eq_zero_iff, dif_zero a b k, UInt8.xor_eq_zero_iff]
    constructor
    · rintro ⟨h1, h2⟩ i hi
      by_cases h : i = k
      · subst h; exact h2
      · exact h1 i (by omega)
    · intro h
      exact ⟨fun i hi => h i (by omega), h k (by omega)⟩
theorem dif_eq (a b : List UInt8) (h : a.length = b.length) : dif a b a.length = 0 ↔ a = b := by
  rw [dif_zero]
  constructor
  · intro hi
    apply List.ext_getElem h
    intro i h1 h2
    have := hi i h1
    rwa [List.getD_eq_getElem?_getD, List.getElem?_eq_getElem h1, List.getD_eq_getElem?_getD, List.getElem?_eq_getElem h2] at this
  · rintro rfl i _; rfl

set_option maxRecDepth 1000000 in
set_option maxHeartbeats 400000 in
theorem hsEqual_any (a b : List UInt8) (w : World) (hb : b.length ≤ 1000000) :
    Calls Tryd.prog 24 #[.string (bstr a), .string (bstr b)] w fun e w' => e = .returned (.bool (decide (a = b))) ∧ Below w.heap.size w w' := by
  have ea : (bstr a).size = a.length := bstr_size a
  have eb : (bstr b).size = b.length := bstr_size b
  by_cases hl : a.length = b.length
  · have hne : ((a.length : Int) != (b.length : Int)) = false := by simp; omega
    go_enter Tryd.func24, Tryd.ntmps24
    go_wp2_with fail
    go_loopw [5, 14] (fun d i wr => ∃ k : Nat, i = .int .i64 (k : Int) ∧ k ≤ a.length ∧ d = .int .u8 ((dif a b k).toNat : Int) ∧ Below w.heap.size w wr) (fun _ i _ => a.length - (intOf i).toNat)
    case atStart => exact ⟨0, rfl, by omega, rfl, Below.refl _ _⟩
    case round =>
      obtain ⟨k, rfl, hk, rfl, hbl⟩ := hrel
      by_cases hlt : k < a.length
      · have HB := Lib.hid hbl
        clear hbl
        go_wp2_with fail
        go_quiet (fail)
        go_wp2_with fail
        go_roundw
        case rel =>
          refine ⟨k + 1, by go_num, by omega, ?_, below_drewN HB.out nq⟩
          rw [bstr_get, bstr_get, u8_xor, u8_or]
          rfl
        case measure => simp [intOf]; omega
      · have hk2 : k = b.length := by omega
        have E : Hid ((((dif a b k).toNat : Int) == 0) = decide (a = b)) := Lib.hid (by
          have h1 : (dif a b k).toNat = 0 ↔ dif a b k = 0 := by
            constructor
            · intro h; exact UInt8.toNat_inj.1 h
            · intro h; rw [h]; rfl
          rw [hk2, ← hl] at h1 ⊢
          rw [dif_eq a b hl] at h1
          by_cases h : a = b
          · rw [decide_eq_true h]; have := h1.2 h; simp [this]
          · rw [decide_eq_false h]
            have h3 : ¬ (dif a b a.length).toNat = 0 := fun h2 => h (h1.1 h2)
            simp; omega)
        have HB := Lib.hid hbl
        clear hbl hk2
        go_wp2_with fail
        go_ret
        exact ⟨by rw [← E.out]; rfl, HB.out⟩
  · have hne : ((a.length : Int) != (b.length : Int)) = true := by simp; omega
    have hd : decide (a = b) = false := by simp; intro h; rw [h] at hl; exact hl rfl
    have HD := Lib.hid hd
    clear hd
    go_enter Tryd.func24, Tryd.ntmps24
    go_wp2_with fail
    go_ret
    exact ⟨by rw [HD.out]; rfl, Below.refl _ _⟩

end Go.Proofs.YtfaadaahpjpfaaaDoor
