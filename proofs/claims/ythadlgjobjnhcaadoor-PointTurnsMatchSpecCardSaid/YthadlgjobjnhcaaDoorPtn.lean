/-
  The symmetries of the cube as mathematics.
-/
namespace Go.Proofs.YthadlgjobjnhcaaDoor.Pt

def bit (s i : Nat) : Bool := s / 2 ^ i % 2 == 1
def axis (k i : Nat) : Nat := match k, i with
  | 0, 0 => 0 | 0, 1 => 1 | 0, _ => 2
  | 1, 0 => 0 | 1, 1 => 2 | 1, _ => 1
  | 2, 0 => 1 | 2, 1 => 0 | 2, _ => 2
  | 3, 0 => 1 | 3, 1 => 2 | 3, _ => 0
  | 4, 0 => 2 | 4, 1 => 0 | 4, _ => 1
  | _, 0 => 2 | _, 1 => 1 | _, _ => 0
def pick (j : Nat) (x y z : Int) : Int := match j with
  | 0 => x
  | 1 => y
  | _ => z
/-- the coordinate i of a turned point (less = 0) or cell (less = 1) -/
def tc (less : Int) (s i : Nat) (x y z : Int) : Int := bif bit s i then -(pick (axis (s / 8) i) x y z) - less else pick (axis (s / 8) i) x y z

theorem pick_bd {L : Int} {j : Nat} {x y z : Int} (h : (-L ≤ x ∧ x ≤ L) ∧ (-L ≤ y ∧ y ≤ L) ∧ (-L ≤ z ∧ z ≤ L)) : -L ≤ pick j x y z ∧ pick j x y z ≤ L := by
  unfold pick; split <;> omega
theorem tc_bd {L less : Int} {s i : Nat} {x y z : Int} (hl : 0 ≤ less ∧ less ≤ 1) (h : (-L ≤ x ∧ x ≤ L) ∧ (-L ≤ y ∧ y ≤ L) ∧ (-L ≤ z ∧ z ≤ L)) : -L - 1 ≤ tc less s i x y z ∧ tc less s i x y z ≤ L := by
  have h1 := pick_bd (j := axis (s / 8) i) h
  unfold tc
  cases bit s i
  · simp only [cond_false]; omega
  · simp only [cond_true]; omega
theorem tc_bd0 {L : Int} {s i : Nat} {x y z : Int} (h : (-L ≤ x ∧ x ≤ L) ∧ (-L ≤ y ∧ y ≤ L) ∧ (-L ≤ z ∧ z ≤ L)) : -L ≤ tc 0 s i x y z ∧ tc 0 s i x y z ≤ L := by
  have h1 := pick_bd (j := axis (s / 8) i) h
  unfold tc
  cases bit s i
  · simp only [cond_false]; omega
  · simp only [cond_true]; omega

/-- what a symmetry does to the point (1 2 3) -/
def mk (s : Nat) : Int × Int × Int := (tc 0 s 0 1 2 3, tc 0 s 1 1 2 3, tc 0 s 2 1 2 3)
def mk2 (a b : Nat) : Int × Int × Int := let p := mk b; (tc 0 a 0 p.1 p.2.1 p.2.2, tc 0 a 1 p.1 p.2.1 p.2.2, tc 0 a 2 p.1 p.2.1 p.2.2)
/-- the first of the symmetries that fits -/
def firstFrom (f : Nat → Bool) : Nat → Nat → Option Nat
  | 0, _ => none
  | n + 1, s => if f s then some s else firstFrom f n (s + 1)
def comp (a b : Nat) : Nat := ((List.range 48).find? fun s => mk s == mk2 a b).getD 48
def inv (s : Nat) : Nat := ((List.range 48).find? fun t => mk2 t s == (1, 2, 3)).getD 48
def bitN (s i : Nat) : Nat := if bit s i then 1 else 0
def mirror (s : Nat) : Bool := (bitN s 0 + bitN s 1 + bitN s 2 + (if axis (s / 8) 1 < axis (s / 8) 0 then 1 else 0) + (if axis (s / 8) 2 < axis (s / 8) 0 then 1 else 0) + (if axis (s / 8) 2 < axis (s / 8) 1 then 1 else 0)) % 2 == 1
def chr (j : Nat) : UInt8 := UInt8.ofNat (120 + j)
def sgn (s i : Nat) : UInt8 := if bit s i then 45 else 43
def name (s : Nat) : List UInt8 := [sgn s 0, chr (axis (s / 8) 0), sgn s 1, chr (axis (s / 8) 1), sgn s 2, chr (axis (s / 8) 2)]

theorem mk_inj : ∀ a b : Fin 48, mk a = mk b → a = b := by decide +kernel
theorem comp_lt : ∀ a b : Fin 48, comp a b < 48 ∧ mk (comp a b) = mk2 a b := by decide +kernel
theorem inv_lt : ∀ a : Fin 48, inv a < 48 ∧ mk2 (inv a) a = (1, 2, 3) ∧ mk2 a (inv a) = (1, 2, 3) := by decide +kernel
theorem comp_inv : ∀ a : Fin 48, comp a (inv a) = 0 ∧ comp (inv a) a = 0 ∧ comp a 0 = a ∧ comp 0 a = a := by decide +kernel
theorem mirror_comp : ∀ a b : Fin 48, mirror (comp a b) = (mirror a != mirror b) := by decide +kernel
theorem name_inj : ∀ a b : Fin 48, name a = name b → a = b := by decide +kernel

/-- a point made of the coordinates of another one, by what the symmetry does to (1 2 3) -/
def app (less n x y z : Int) : Int := if n = 1 then x else if n = 2 then y else if n = 3 then z else if n = -1 then -x - less else if n = -2 then -y - less else -z - less
theorem tc_app (less x y z : Int) : ∀ s : Fin 48, ∀ i : Fin 3, tc less s i x y z = app less (tc 0 s i 1 2 3) x y z := by
  have h : ∀ s : Fin 48, ∀ i : Fin 3, (tc 0 s i 1 2 3 = 1 ∧ bit s i = false ∧ axis (s.val / 8) i = 0) ∨ (tc 0 s i 1 2 3 = 2 ∧ bit s i = false ∧ axis (s.val / 8) i = 1) ∨ (tc 0 s i 1 2 3 = 3 ∧ bit s i = false ∧ axis (s.val / 8) i = 2) ∨ (tc 0 s i 1 2 3 = -1 ∧ bit s i = true ∧ axis (s.val / 8) i = 0) ∨ (tc 0 s i 1 2 3 = -2 ∧ bit s i = true ∧ axis (s.val / 8) i = 1) ∨ (tc 0 s i 1 2 3 = -3 ∧ bit s i = true ∧ axis (s.val / 8) i = 2) := by decide +kernel
  intro s i
  rcases h s i with ⟨e1, e2, e3⟩ | ⟨e1, e2, e3⟩ | ⟨e1, e2, e3⟩ | ⟨e1, e2, e3⟩ | ⟨e1, e2, e3⟩ | ⟨e1, e2, e3⟩ <;> rw [e1] <;> unfold tc app pick <;> rw [e2, e3] <;> rfl
theorem app_app (less x y z n u1 u2 u3 : Int) (hn : n = 1 ∨ n = 2 ∨ n = 3 ∨ n = -1 ∨ n = -2 ∨ n = -3)
    (h1 : u1 = 1 ∨ u1 = 2 ∨ u1 = 3 ∨ u1 = -1 ∨ u1 = -2 ∨ u1 = -3) (h2 : u2 = 1 ∨ u2 = 2 ∨ u2 = 3 ∨ u2 = -1 ∨ u2 = -2 ∨ u2 = -3) (h3 : u3 = 1 ∨ u3 = 2 ∨ u3 = 3 ∨ u3 = -1 ∨ u3 = -2 ∨ u3 = -3) :
    app less n (app less u1 x y z) (app less u2 x y z) (app less u3 x y z) = app less (app 0 n u1 u2 u3) x y z := by
  have key : ∀ v : Int, (v = 1 ∨ v = 2 ∨ v = 3 ∨ v = -1 ∨ v = -2 ∨ v = -3) → app less (-v - 0) x y z = -(app less v x y z) - less := by
    intro v hv
    rcases hv with rfl | rfl | rfl | rfl | rfl | rfl <;> simp only [app] <;> simp <;> omega
  rcases hn with rfl | rfl | rfl | rfl | rfl | rfl
  · rfl
  · rfl
  · rfl
  · exact (key u1 h1).symm
  · exact (key u2 h2).symm
  · exact (key u3 h3).symm
theorem tc_six : ∀ s : Fin 48, ∀ i : Fin 3, tc 0 s i 1 2 3 = 1 ∨ tc 0 s i 1 2 3 = 2 ∨ tc 0 s i 1 2 3 = 3 ∨ tc 0 s i 1 2 3 = -1 ∨ tc 0 s i 1 2 3 = -2 ∨ tc 0 s i 1 2 3 = -3 := by decide +kernel
/-- turning by b and then by a is turning by their composition -/
theorem tc_comp (less x y z : Int) (a b : Fin 48) (i : Fin 3) : tc less a i (tc less b 0 x y z) (tc less b 1 x y z) (tc less b 2 x y z) = tc less (comp a b) i x y z := by
  obtain ⟨c1, c2⟩ := comp_lt a b
  have e := tc_app less x y z ⟨comp a b, c1⟩ i
  simp only at e
  rw [e, tc_app less _ _ _ a i]
  have t0 := tc_app less x y z b 0
  have t1 := tc_app less x y z b 1
  have t2 := tc_app less x y z b 2
  simp only [Fin.isValue, Fin.val_zero, Fin.val_one, Fin.val_two] at t0 t1 t2
  rw [t0, t1, t2]
  have s0 := tc_six b 0
  have s1 := tc_six b 1
  have s2 := tc_six b 2
  simp only [Fin.isValue, Fin.val_zero, Fin.val_one, Fin.val_two] at s0 s1 s2
  rw [app_app less x y z _ _ _ _ (tc_six a i) s0 s1 s2, ← tc_app 0 _ _ _ a i]
  congr 1
  unfold mk mk2 mk at c2
  simp only [Prod.mk.injEq] at c2
  match i with
  | 0 => exact c2.1.symm
  | 1 => exact c2.2.1.symm
  | 2 => exact c2.2.2.symm
theorem comp_assoc (a b c : Fin 48) : comp (comp a b) c = comp a (comp b c) := by
  obtain ⟨c1, _⟩ := comp_lt a b
  obtain ⟨d1, _⟩ := comp_lt b c
  have l1 := comp_lt ⟨comp a b, c1⟩ c
  have l2 := comp_lt a ⟨comp b c, d1⟩
  have h : mk (comp (comp a b) c) = mk (comp a (comp b c)) := by
    unfold mk
    have f : ∀ i : Fin 3, tc 0 (comp (comp a b) c) i 1 2 3 = tc 0 (comp a (comp b c)) i 1 2 3 := fun i => by
      have q1 := tc_comp 0 1 2 3 ⟨comp a b, c1⟩ c i
      have q2 := tc_comp 0 1 2 3 a ⟨comp b c, d1⟩ i
      have q3 := fun j => tc_comp 0 1 2 3 b c j
      have q4 := tc_comp 0 (tc 0 c 0 1 2 3) (tc 0 c 1 1 2 3) (tc 0 c 2 1 2 3) a b i
      have r0 := q3 0
      have r1 := q3 1
      have r2 := q3 2
      simp only [Fin.isValue, Fin.val_zero, Fin.val_one, Fin.val_two] at q1 q2 r0 r1 r2
      rw [← q1, ← q2, ← r0, ← r1, ← r2, ← q4]
    have f0 := f 0
    have f1 := f 1
    have f2 := f 2
    simp only [Fin.isValue, Fin.val_zero, Fin.val_one, Fin.val_two] at f0 f1 f2
    rw [f0, f1, f2]
  have := mk_inj ⟨_, l1.1⟩ ⟨_, l2.1⟩ h
  exact Fin.mk.inj this
end Go.Proofs.YthadlgjobjnhcaaDoor.Pt
