/-
  Round trips and neighbours. No program is mentioned here.
-/
import Derived.Test.YtmjjkloeipoefaaMo5
namespace Go.Proofs.Ytmjjkloeipoefaa.Mo
theorem okB_enc {x y z : Int} (h : inB x y z = true) : okB (enc x y z) = true := by
  rw [enc_in h]; apply okB_true.2
  have := E_lt 14 x.toNat y.toNat z.toNat
  omega
theorem dec_enc {x y z : Int} (h : inB x y z = true) : dec 0 (enc x y z) = x ∧ dec 1 (enc x y z) = y ∧ dec 2 (enc x y z) = z := by
  have hk := okB_enc h
  have hx := inB_true.1 h
  rw [dec_in hk, dec_in hk, dec_in hk, enc_in h]
  simp only [Int.toNat_natCast, Nat.pow_zero, Nat.div_one]
  rw [show (2 : Nat) ^ 1 = 2 from rfl, show (2 : Nat) ^ 2 = 4 from rfl, DE0 14 _ _ _ (by omega), DE1 14 _ _ _ (by omega), DE2 14 _ _ _ (by omega)]
  omega
theorem inB_dec (m : Int) : inB (dec 0 m) (dec 1 m) (dec 2 m) = true := inB_true.2 ⟨dec_bd 0 m, dec_bd 1 m, dec_bd 2 m⟩
/-- the direction -/
def dr (u : Bool) : Int := if u then 1 else -1
end Go.Proofs.Ytmjjkloeipoefaa.Mo
