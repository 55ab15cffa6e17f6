/-
  Codes in the cubes of the order; what the search finds; how many cells a box has. No program is mentioned here.
-/
import Derived.Test.YtmjjkloeipoefaaMo10
import Derived.Test.YtmjjkloeipoefaaMo6
namespace Go.Proofs.Ytmjjkloeipoefaa.Mo

/-- a cube of the order: its corner is a multiple of its side -/
def al (x y z : Int) (l : Nat) : Prop := ∃ X Y Z : Nat, x = ((X * 2 ^ l : Nat) : Int) ∧ y = ((Y * 2 ^ l : Nat) : Int) ∧ z = ((Z * 2 ^ l : Nat) : Int) ∧ (X < 2 ^ (14 - l) ∧ Y < 2 ^ (14 - l) ∧ Z < 2 ^ (14 - l)) ∧ l ≤ 14
theorem mul_bd {X l : Nat} (h : X < 2 ^ (14 - l)) (hl : l ≤ 14) : X * 2 ^ l + 2 ^ l ≤ 16384 := by
  have e : 2 ^ (14 - l) * 2 ^ l = 16384 := by rw [← Nat.pow_add, show 14 - l + l = 14 by omega]
  have := Nat.mul_le_mul_right (2 ^ l) (show X + 1 ≤ 2 ^ (14 - l) from h)
  rw [Nat.succ_mul, e] at this
  exact this
theorem al_sits {x y z : Int} {l : Nat} (h : al x y z l) : sits x y z l := by
  obtain ⟨X, Y, Z, rfl, rfl, rfl, ⟨h1, h2, h3⟩, hl⟩ := h
  have a := mul_bd h1 hl; have b := mul_bd h2 hl; have c := mul_bd h3 hl
  unfold sits pw
  omega
theorem al0 : al 0 0 0 14 := ⟨0, 0, 0, by simp, by simp, by simp, by simp, by omega⟩
/-- its code -/
theorem al_enc {x y z : Int} {l : Nat} {X Y Z : Nat} (h : x = ((X * 2 ^ l : Nat) : Int) ∧ y = ((Y * 2 ^ l : Nat) : Int) ∧ z = ((Z * 2 ^ l : Nat) : Int)) (hb : X < 2 ^ (14 - l) ∧ Y < 2 ^ (14 - l) ∧ Z < 2 ^ (14 - l)) (hl : l ≤ 14) :
    enc x y z = ((E (14 - l) X Y Z * 8 ^ l : Nat) : Int) := by
  have hs := al_sits ⟨X, Y, Z, h.1, h.2.1, h.2.2, hb, hl⟩
  rw [enc_in (sits_in hs), h.1, h.2.1, h.2.2]
  simp only [Int.toNat_natCast]
  have e := E_mul l (14 - l) X Y Z
  rw [show 14 - l + l = 14 by omega] at e
  rw [e]
theorem D_div : ∀ (L k n : Nat), D (k + L) n / 2 ^ L = D k (n / 8 ^ L)
  | 0, k, n => by simp
  | L + 1, k, n => by
    have h := D_div L k (n / 8)
    rw [← Nat.add_assoc, D_succ, pow2, ← Nat.div_div_eq_div_mul, show (2 * D (k + L) (n / 8) + n % 2) / 2 = D (k + L) (n / 8) by omega, h, Nat.div_div_eq_div_mul, pow8]
theorem div_swap (n a b : Nat) : n / a / b = n / b / a := by rw [Nat.div_div_eq_div_mul, Nat.div_div_eq_div_mul, Nat.mul_comm]
/-- where the cells of a cube lie -/
theorem al_cell {x y z : Int} {l : Nat} (h : al x y z l) {c : Nat} (h1 : enc x y z ≤ (c : Int)) (h2 : (c : Int) < enc x y z + pw (3 * l)) :
    (x ≤ dec 0 c ∧ dec 0 c < x + pw l) ∧ (y ≤ dec 1 c ∧ dec 1 c < y + pw l) ∧ (z ≤ dec 2 c ∧ dec 2 c < z + pw l) ∧ okB c = true := by
  obtain ⟨X, Y, Z, hx, hy, hz, hb, hl⟩ := h
  have he := al_enc ⟨hx, hy, hz⟩ hb hl
  rw [he] at h1 h2
  have hp : pw (3 * l) = ((8 ^ l : Nat) : Int) := by unfold pw; rw [pow83]
  rw [hp] at h2
  have hE := E_lt (14 - l) X Y Z
  have e8 : 8 ^ (14 - l) * 8 ^ l = 4398046511104 := by rw [← Nat.pow_add, show 14 - l + l = 14 by omega]
  have hE2 := Nat.mul_le_mul_right (8 ^ l) (show E (14 - l) X Y Z + 1 ≤ 8 ^ (14 - l) from hE)
  rw [Nat.succ_mul, e8] at hE2
  have hok : okB (c : Int) = true := okB_true.2 (by omega)
  have hq : c / 8 ^ l = E (14 - l) X Y Z := by
    refine Nat.div_eq_of_lt_le ?_ ?_
    · omega
    · rw [Nat.succ_mul]; omega
  have d : ∀ a, D 14 (c / 2 ^ a) / 2 ^ l = D (14 - l) (E (14 - l) X Y Z / 2 ^ a) := fun a => by
    have := D_div l (14 - l) (c / 2 ^ a)
    rw [show 14 - l + l = 14 by omega] at this
    rw [this, div_swap, hq]
  have q0 := d 0; have q1 := d 1; have q2 := d 2
  rw [Nat.pow_zero, Nat.div_one, Nat.div_one, DE0 _ _ _ _ hb.1] at q0
  rw [show (2 : Nat) ^ 1 = 2 from rfl, DE1 _ _ _ _ hb.2.1] at q1
  rw [show (2 : Nat) ^ 2 = 4 from rfl, DE2 _ _ _ _ hb.2.2] at q2
  have r : ∀ (m Q : Nat), m / 2 ^ l = Q → ((Q * 2 ^ l : Nat) : Int) ≤ m ∧ (m : Int) < ((Q * 2 ^ l : Nat) : Int) + pw l := fun m Q hm => by
    have a1 := Nat.div_mul_le_self m (2 ^ l)
    have a2 := Nat.lt_div_mul_add (a := m) (Nat.two_pow_pos l)
    rw [hm] at a1 a2
    unfold pw
    omega
  rw [dec_in hok, dec_in hok, dec_in hok, hx, hy, hz]
  simp only [Int.toNat_natCast, Nat.pow_zero, Nat.div_one]
  exact ⟨r _ _ q0, r _ _ (by rw [show (2 : Nat) ^ 1 = 2 from rfl]; exact q1), r _ _ (by rw [show (2 : Nat) ^ 2 = 4 from rfl]; exact q2), hok⟩
/-- the children of a cube, and their codes -/
theorem al_child {x y z : Int} {l : Nat} (h : al x y z (l + 1)) {o : Nat} (ho : o < 8) :
    al (x + cx 0 o l) (y + cx 1 o l) (z + cx 2 o l) l ∧ enc (x + cx 0 o l) (y + cx 1 o l) (z + cx 2 o l) = enc x y z + (o : Int) * pw (3 * l) := by
  obtain ⟨X, Y, Z, hx, hy, hz, hb, hl⟩ := h
  have he := al_enc ⟨hx, hy, hz⟩ hb hl
  have k : ∀ (Q i : Nat), ((Q * 2 ^ (l + 1) : Nat) : Int) + cx i o l = (((2 * Q + o / 2 ^ i % 2) * 2 ^ l : Nat) : Int) := fun Q i => by
    unfold cx pw
    rw [Nat.add_mul, pow2, Nat.mul_comm 2 Q, Nat.mul_assoc]
    simp
  have p2 : 2 ^ (14 - l) = 2 * 2 ^ (14 - (l + 1)) := by rw [← pow2]; congr 1; omega
  have hb' : (2 * X + o / 2 ^ 0 % 2) < 2 ^ (14 - l) ∧ (2 * Y + o / 2 ^ 1 % 2) < 2 ^ (14 - l) ∧ (2 * Z + o / 2 ^ 2 % 2) < 2 ^ (14 - l) := by
    rw [p2]; omega
  have hx' := k X 0; have hy' := k Y 1; have hz' := k Z 2
  rw [← hx] at hx'; rw [← hy] at hy'; rw [← hz] at hz'
  refine ⟨⟨_, _, _, hx', hy', hz', hb', by omega⟩, ?_⟩
  rw [al_enc ⟨hx', hy', hz'⟩ hb' (by omega), he]
  rw [show 14 - l = (14 - (l + 1)) + 1 by omega, E_succ]
  have d : ∀ (Q i : Nat), (2 * Q + o / 2 ^ i % 2) / 2 = Q ∧ (2 * Q + o / 2 ^ i % 2) % 2 = o / 2 ^ i % 2 := fun Q i => by omega
  rw [(d X 0).1, (d Y 1).1, (d Z 2).1, (d X 0).2, (d Y 1).2, (d Z 2).2]
  have ho2 : o / 2 ^ 0 % 2 + 2 * (o / 2 ^ 1 % 2) + 4 * (o / 2 ^ 2 % 2) = o := by
    rw [show (2 : Nat) ^ 0 = 1 from rfl, show (2 : Nat) ^ 1 = 2 from rfl, show (2 : Nat) ^ 2 = 4 from rfl]; omega
  rw [ho2]
  unfold pw
  rw [← pow83, Nat.add_mul, pow8, Nat.mul_comm 8 (E _ _ _ _), Nat.mul_assoc]
  simp
theorem pw8 (l : Nat) : pw (3 * (l + 1)) = 8 * pw (3 * l) := by
  unfold pw; rw [← pow83, ← pow83, pow8]; simp
end Go.Proofs.Ytmjjkloeipoefaa.Mo
