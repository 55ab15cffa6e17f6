/-
  Points, boxes and symmetries as mathematics.
-/
namespace Go.Proofs.YtjdeaopdbenamaaDoor.Pt

/-- is a cell in a box -/
def inB (x y z a b c d e f : Int) : Bool:=decide ((a ≤ x ∧ x < d) ∧ (b ≤ y ∧ y < e) ∧ (c ≤ z ∧ z < f))
/-- is a box empty -/
def emp (a b c d e f : Int) : Bool:=decide (d ≤ a ∨ e ≤ b ∨ f ≤ c)
/-- the sizes of a box -/
def sz (n : Bool) (a d : Int) : Int:=if n = true then 0 else d - a
def vol (a b c d e f : Int) : Int:=sz (emp a b c d e f) a d * sz (emp a b c d e f) b e * sz (emp a b c d e f) c f
/-- the distance from a closed box that is not empty -/
def near (x y z a b c d e f : Int) : Int:=max (max (max 0 (max (a - x) (x - d))) (max (b - y) (y - e))) (max (c - z) (z - f))
/-- the number of a cell -/
def idx (x y z a b c d e : Int) : Int:=((z - c) * (e - b) + (y - b)) * (d - a) + (x - a)

theorem emp_in (a b c d e f : Int) : emp a b c d e f = !(inB a b c a b c d e f):=by
  unfold emp inB
  by_cases h1 : a < d <;> by_cases h2 : b < e <;> by_cases h3 : c < f <;>
    simp [h1,h2,h3,Int.not_le.2,Int.not_lt.1] <;> omega

theorem inB_true {x y z a b c d e f : Int} : inB x y z a b c d e f = true ↔ (a ≤ x ∧ x < d) ∧ (b ≤ y ∧ y < e) ∧ (c ≤ z ∧ z < f):=by
  unfold inB;exact decide_eq_true_iff
theorem emp_true {a b c d e f : Int} : emp a b c d e f = true ↔ d ≤ a ∨ e ≤ b ∨ f ≤ c:=by
  unfold emp;exact decide_eq_true_iff
theorem emp_false {a b c d e f : Int} : emp a b c d e f = false ↔ a < d ∧ b < e ∧ c < f:=by
  unfold emp;rw [decide_eq_false_iff_not];omega
theorem inB_false {x y z a b c d e f : Int} : inB x y z a b c d e f = false ↔ ¬ ((a ≤ x ∧ x < d) ∧ (b ≤ y ∧ y < e) ∧ (c ≤ z ∧ z < f)):=by
  unfold inB;exact decide_eq_false_iff_not

theorem vol_emp {a b c d e f : Int} (h : emp a b c d e f = true) : vol a b c d e f = 0:=by
  unfold vol sz;rw [h];simp
theorem vol_full {a b c d e f : Int} (h : emp a b c d e f = false) : vol a b c d e f = (d - a) * (e - b) * (f - c):=by
  unfold vol sz;rw [h];simp

theorem mul3_pos {a b c : Int} (h1 : 0 < a) (h2 : 0 < b) (h3 : 0 < c) : 0 < a * b * c:=Int.mul_pos (Int.mul_pos h1 h2) h3
theorem mul3_le {a b c x y z : Int} (h1 : 0 ≤ a) (h2 : 0 ≤ b) (h3 : 0 ≤ c) (k1 : a ≤ x) (k2 : b ≤ y) (k3 : c ≤ z) : a * b * c ≤ x * y * z:=by
  have e1 : a * b ≤ x * y:=Int.mul_le_mul k1 k2 h2 (by omega)
  exact Int.mul_le_mul e1 k3 h3 (Int.mul_nonneg (by omega) (by omega))
theorem vol_pos {a b c d e f : Int} (h : emp a b c d e f = false) : 0 < vol a b c d e f:=by
  rw [vol_full h]
  have:=emp_false.1 h
  exact mul3_pos (by omega) (by omega) (by omega)
theorem vol_nonneg (a b c d e f : Int) : 0 ≤ vol a b c d e f:=by
  cases h : emp a b c d e f with
  | true=>rw [vol_emp h];decide
  | false=>exact Int.le_of_lt (vol_pos h)
/-- the box of what is in both -/
def meet (a b c d e f a' b' c' d' e' f' : Int) : Bool:=emp (max a a') (max b b') (max c c') (min d d') (min e e') (min f f')

theorem sub_vol {a b c d e f a' b' c' d' e' f' : Int} (h : emp a b c d e f = false) (k1 : a' ≤ a) (k2 : b' ≤ b) (k3 : c' ≤ c) (k4 : d ≤ d') (k5 : e ≤ e') (k6 : f ≤ f') : vol a b c d e f ≤ vol a' b' c' d' e' f':=by
  have h1:=emp_false.1 h
  have h2 : emp a' b' c' d' e' f' = false:=emp_false.2 (by omega)
  rw [vol_full h,vol_full h2]
  exact mul3_le (by omega) (by omega) (by omega) (by omega) (by omega) (by omega)
/-- numbers of cells: bounds -/
theorem pair_bd {x y n m : Int} (hx : 0 ≤ x ∧ x < n) (hy : 0 ≤ y ∧ y < m) : 0 ≤ y * n + x ∧ y * n + x < m * n:=by
  have h1 : 0 ≤ y * n:=Int.mul_nonneg hy.1 (by omega)
  have h2 : (y + 1) * n ≤ m * n:=Int.mul_le_mul_of_nonneg_right (by omega) (by omega)
  rw [Int.add_mul,Int.one_mul] at h2
  omega
theorem pair_div {x y n : Int} (hx : 0 ≤ x ∧ x < n) : (y * n + x) / n = y ∧ (y * n + x) % n = x:=by
  have hn : n ≠ 0:=by omega
  rw [Int.add_comm,Int.add_mul_ediv_right _ _ hn,Int.add_mul_emod_self_right,Int.ediv_eq_zero_of_lt hx.1 hx.2,Int.emod_eq_of_lt hx.1 hx.2]
  exact ⟨Int.zero_add _,rfl⟩
theorem pair_back {i n : Int} : (i / n) * n + i % n = i:=by
  rw [Int.mul_comm];exact Int.mul_ediv_add_emod i n

theorem idx_bd {x y z a b c d e f : Int} (h : inB x y z a b c d e f = true) : 0 ≤ (z - c) * (e - b) + (y - b) ∧ 0 ≤ idx x y z a b c d e ∧ idx x y z a b c d e < vol a b c d e f ∧ emp a b c d e f = false:=by
  have h1:=inB_true.1 h
  have h2 : emp a b c d e f = false:=emp_false.2 (by omega)
  have e1:=pair_bd (x:=y - b) (y:=z - c) (n:=e - b) (m:=f - c) (by omega) (by omega)
  have e2:=pair_bd (x:=x - a) (n:=d - a) (by omega) e1
  refine ⟨e1.1,e2.1, ?_,h2⟩
  rw [vol_full h2]
  have : (d - a) * (e - b) * (f - c) = (f - c) * (e - b) * (d - a):=by
    rw [Int.mul_comm (d - a) (e - b),Int.mul_comm _ (f - c),Int.mul_assoc,← Int.mul_assoc]
  rw [this]
  exact e2.2

/-- the parts of a number -/
theorem at_idx {x y z a b c d e f : Int} (h : inB x y z a b c d e f = true) :
    idx x y z a b c d e % (d - a) = x - a ∧ idx x y z a b c d e / (d - a) % (e - b) = y - b ∧ idx x y z a b c d e / (d - a) / (e - b) = z - c:=by
  have h1:=inB_true.1 h
  unfold idx
  have e2:=pair_div (x:=x - a) (y:=(z - c) * (e - b) + (y - b)) (n:=d - a) (by omega)
  have e1:=pair_div (x:=y - b) (y:=z - c) (n:=e - b) (by omega)
  rw [e2.1,e2.2]
  exact ⟨rfl,e1.2,e1.1⟩
theorem at_bd {a b c d e f i : Int} (h : emp a b c d e f = false) (hi : 0 ≤ i ∧ i < vol a b c d e f) :
    (0 ≤ i % (d - a) ∧ i % (d - a) < d - a) ∧ (0 ≤ i / (d - a) % (e - b) ∧ i / (d - a) % (e - b) < e - b) ∧ (0 ≤ i / (d - a) / (e - b) ∧ i / (d - a) / (e - b) < f - c) ∧ 0 ≤ i / (d - a):=by
  have h1:=emp_false.1 h
  rw [vol_full h] at hi
  have p1 : 0 < d - a:=by omega
  have p2 : 0 < e - b:=by omega
  have q0 : 0 ≤ i / (d - a):=Int.ediv_nonneg hi.1 (by omega)
  refine ⟨⟨Int.emod_nonneg _ (by omega),Int.emod_lt_of_pos _ p1⟩,⟨Int.emod_nonneg _ (by omega),Int.emod_lt_of_pos _ p2⟩,⟨Int.ediv_nonneg q0 (by omega), ?_⟩,q0⟩
  rw [Int.ediv_lt_iff_lt_mul p2,Int.ediv_lt_iff_lt_mul p1]
  have : (f - c) * (e - b) * (d - a) = (d - a) * (e - b) * (f - c):=by
    rw [Int.mul_comm (d - a) (e - b),Int.mul_comm _ (f - c),Int.mul_assoc,← Int.mul_assoc]
  omega
theorem idx_at {a b c d e f i : Int} (h : emp a b c d e f = false) (hi : 0 ≤ i ∧ i < vol a b c d e f) :
    inB (a + i % (d - a)) (b + i / (d - a) % (e - b)) (c + i / (d - a) / (e - b)) a b c d e f = true ∧ idx (a + i % (d - a)) (b + i / (d - a) % (e - b)) (c + i / (d - a) / (e - b)) a b c d e = i:=by
  have h1:=at_bd h hi
  refine ⟨inB_true.2 (by omega), ?_⟩
  unfold idx
  rw [show c + i / (d - a) / (e - b) - c = i / (d - a) / (e - b) by omega,show b + i / (d - a) % (e - b) - b = i / (d - a) % (e - b) by omega,show a + i % (d - a) - a = i % (d - a) by omega,pair_back,pair_back]
end Go.Proofs.YtjdeaopdbenamaaDoor.Pt
/-
  The symmetries of the cube as mathematics.
-/
namespace Go.Proofs.YtjdeaopdbenamaaDoor.Pt

def bit (s i : Nat) : Bool:=s / 2 ^ i % 2 == 1
def axis (k i : Nat) : Nat:=match k,i with
  | 0,0=>0 | 0,1=>1 | 0,_=>2
  | 1,0=>0 | 1,1=>2 | 1,_=>1
  | 2,0=>1 | 2,1=>0 | 2,_=>2
  | 3,0=>1 | 3,1=>2 | 3,_=>0
  | 4,0=>2 | 4,1=>0 | 4,_=>1
  | _,0=>2 | _,1=>1 | _,_=>0
def pick (j : Nat) (x y z : Int) : Int:=match j with
  | 0=>x
  | 1=>y
  | _=>z
/-- the coordinate i of a turned point (less = 0) or cell (less = 1) -/
def tc (less : Int) (s i : Nat) (x y z : Int) : Int:=bif bit s i then -(pick (axis (s / 8) i) x y z) - less else pick (axis (s / 8) i) x y z

theorem pick_bd {L : Int} {j : Nat} {x y z : Int} (h : (-L ≤ x ∧ x ≤ L) ∧ (-L ≤ y ∧ y ≤ L) ∧ (-L ≤ z ∧ z ≤ L)) : -L ≤ pick j x y z ∧ pick j x y z ≤ L:=by
  unfold pick;split <;> omega
theorem tc_bd {L less : Int} {s i : Nat} {x y z : Int} (hl : 0 ≤ less ∧ less ≤ 1) (h : (-L ≤ x ∧ x ≤ L) ∧ (-L ≤ y ∧ y ≤ L) ∧ (-L ≤ z ∧ z ≤ L)) : -L - 1 ≤ tc less s i x y z ∧ tc less s i x y z ≤ L:=by
  have h1:=pick_bd (j:=axis (s / 8) i) h
  unfold tc
  cases bit s i
  · simp only [cond_false];omega
  · simp only [cond_true];omega
theorem tc_bd0 {L : Int} {s i : Nat} {x y z : Int} (h : (-L ≤ x ∧ x ≤ L) ∧ (-L ≤ y ∧ y ≤ L) ∧ (-L ≤ z ∧ z ≤ L)) : -L ≤ tc 0 s i x y z ∧ tc 0 s i x y z ≤ L:=by
  have h1:=pick_bd (j:=axis (s / 8) i) h
  unfold tc
  cases bit s i
  · simp only [cond_false];omega
  · simp only [cond_true];omega

/-- what a symmetry does to the point (1 2 3) -/
def mk (s : Nat) : Int × Int × Int:=(tc 0 s 0 1 2 3,tc 0 s 1 1 2 3,tc 0 s 2 1 2 3)
def mk2 (a b : Nat) : Int × Int × Int:=let p:=mk b;(tc 0 a 0 p.1 p.2.1 p.2.2,tc 0 a 1 p.1 p.2.1 p.2.2,tc 0 a 2 p.1 p.2.1 p.2.2)
def comp (a b : Nat) : Nat:=((List.range 48).find? fun s=>mk s == mk2 a b).getD 48
def inv (s : Nat) : Nat:=((List.range 48).find? fun t=>mk2 t s == (1,2,3)).getD 48
def chr (j : Nat) : UInt8:=UInt8.ofNat (120 + j)
def sgn (s i : Nat) : UInt8:=if bit s i then 45 else 43
def name (s : Nat) : List UInt8:=[sgn s 0,chr (axis (s / 8) 0),sgn s 1,chr (axis (s / 8) 1),sgn s 2,chr (axis (s / 8) 2)]

theorem mk_inj : ∀ a b : Fin 48,mk a = mk b → a = b:=by decide +kernel
theorem comp_lt : ∀ a b : Fin 48,comp a b < 48 ∧ mk (comp a b) = mk2 a b:=by decide +kernel
theorem inv_lt : ∀ a : Fin 48,inv a < 48 ∧ mk2 (inv a) a = (1,2,3) ∧ mk2 a (inv a) = (1,2,3):=by decide +kernel
theorem comp_inv : ∀ a : Fin 48,comp a (inv a) = 0 ∧ comp (inv a) a = 0 ∧ comp a 0 = a ∧ comp 0 a = a:=by decide +kernel
/-- a point made of the coordinates of another one, by what the symmetry does to (1 2 3) -/
def app (less n x y z : Int) : Int:=if n = 1 then x else if n = 2 then y else if n = 3 then z else if n = -1 then -x - less else if n = -2 then -y - less else -z - less
theorem tc_app (less x y z : Int) : ∀ s : Fin 48,∀ i : Fin 3,tc less s i x y z = app less (tc 0 s i 1 2 3) x y z:=by
  have h : ∀ s : Fin 48,∀ i : Fin 3,(tc 0 s i 1 2 3 = 1 ∧ bit s i = false ∧ axis (s.val / 8) i = 0) ∨ (tc 0 s i 1 2 3 = 2 ∧ bit s i = false ∧ axis (s.val / 8) i = 1) ∨ (tc 0 s i 1 2 3 = 3 ∧ bit s i = false ∧ axis (s.val / 8) i = 2) ∨ (tc 0 s i 1 2 3 = -1 ∧ bit s i = true ∧ axis (s.val / 8) i = 0) ∨ (tc 0 s i 1 2 3 = -2 ∧ bit s i = true ∧ axis (s.val / 8) i = 1) ∨ (tc 0 s i 1 2 3 = -3 ∧ bit s i = true ∧ axis (s.val / 8) i = 2):=by decide +kernel
  intro s i
  rcases h s i with ⟨e1,e2,e3⟩ | ⟨e1,e2,e3⟩ | ⟨e1,e2,e3⟩ | ⟨e1,e2,e3⟩ | ⟨e1,e2,e3⟩ | ⟨e1,e2,e3⟩ <;> rw [e1] <;> unfold tc app pick <;> rw [e2,e3] <;> rfl
theorem app_app (less x y z n u1 u2 u3 : Int) (hn : n = 1 ∨ n = 2 ∨ n = 3 ∨ n = -1 ∨ n = -2 ∨ n = -3)
    (h1 : u1 = 1 ∨ u1 = 2 ∨ u1 = 3 ∨ u1 = -1 ∨ u1 = -2 ∨ u1 = -3) (h2 : u2 = 1 ∨ u2 = 2 ∨ u2 = 3 ∨ u2 = -1 ∨ u2 = -2 ∨ u2 = -3) (h3 : u3 = 1 ∨ u3 = 2 ∨ u3 = 3 ∨ u3 = -1 ∨ u3 = -2 ∨ u3 = -3) :
    app less n (app less u1 x y z) (app less u2 x y z) (app less u3 x y z) = app less (app 0 n u1 u2 u3) x y z:=by
  have key : ∀ v : Int,(v = 1 ∨ v = 2 ∨ v = 3 ∨ v = -1 ∨ v = -2 ∨ v = -3) → app less (-v - 0) x y z = -(app less v x y z) - less:=by
    intro v hv
    rcases hv with rfl | rfl | rfl | rfl | rfl | rfl <;> simp only [app] <;> simp <;> omega
  rcases hn with rfl | rfl | rfl | rfl | rfl | rfl
  · rfl
  · rfl
  · rfl
  · exact (key u1 h1).symm
  · exact (key u2 h2).symm
  · exact (key u3 h3).symm
theorem tc_six : ∀ s : Fin 48,∀ i : Fin 3,tc 0 s i 1 2 3 = 1 ∨ tc 0 s i 1 2 3 = 2 ∨ tc 0 s i 1 2 3 = 3 ∨ tc 0 s i 1 2 3 = -1 ∨ tc 0 s i 1 2 3 = -2 ∨ tc 0 s i 1 2 3 = -3:=by decide +kernel
/-- turning by b and then by a is turning by their composition -/
theorem tc_comp (less x y z : Int) (a b : Fin 48) (i : Fin 3) : tc less a i (tc less b 0 x y z) (tc less b 1 x y z) (tc less b 2 x y z) = tc less (comp a b) i x y z:=by
  obtain ⟨c1,c2⟩:=comp_lt a b
  have e:=tc_app less x y z ⟨comp a b,c1⟩ i
  simp only at e
  rw [e,tc_app less _ _ _ a i]
  have t0:=tc_app less x y z b 0
  have t1:=tc_app less x y z b 1
  have t2:=tc_app less x y z b 2
  simp only [Fin.isValue,Fin.val_zero,Fin.val_one,Fin.val_two] at t0 t1 t2
  rw [t0,t1,t2]
  have s0:=tc_six b 0
  have s1:=tc_six b 1
  have s2:=tc_six b 2
  simp only [Fin.isValue,Fin.val_zero,Fin.val_one,Fin.val_two] at s0 s1 s2
  rw [app_app less x y z _ _ _ _ (tc_six a i) s0 s1 s2,← tc_app 0 _ _ _ a i]
  congr 1
  unfold mk mk2 mk at c2
  simp only [Prod.mk.injEq] at c2
  match i with
  | 0=>exact c2.1.symm
  | 1=>exact c2.2.1.symm
  | 2=>exact c2.2.2.symm
end Go.Proofs.YtjdeaopdbenamaaDoor.Pt
