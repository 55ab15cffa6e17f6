/-
  Materials as mathematics: names, kinds, tables, the least index at which something fails. (No program.)
-/
import Derived.Lib.Itoa
import Derived.Lib.ItoaNum
import Derived.Lib.Atoi
namespace Go.Proofs.Ytfomieekdbkcnaa.Ma
open Go
set_option linter.unusedVariables false
abbrev By := List UInt8
/-- byte k of a string -/
def byt (l : List UInt8) (k : Nat) : UInt8 := l.getD k 0

/-- the least index below n at which p fails, else n -/
def ff (p : Nat → Bool) (n : Nat) : Nat := (List.range n).findIdx (fun i => !p i)
section
variable {p : Nat → Bool} {n k : Nat}
theorem ff_le : ff p n ≤ n := by have := List.findIdx_le_length (p := fun i => !p i) (xs := List.range n); simpa [ff] using this
theorem ff_before {j : Nat} (h : j < ff p n) : p j = true := by
  have h1 : j < (List.range n).length := by have := @ff_le p n; simp; omega
  have := List.not_of_lt_findIdx (p := fun i => !p i) (xs := List.range n) h
  simpa using this
theorem ff_at (h : ff p n < n) : p (ff p n) = false := by
  have h1 : ff p n < (List.range n).length := by simpa using h
  have := List.findIdx_getElem (p := fun i => !p i) (xs := List.range n) (w := h1)
  have e : (List.range n)[ff p n]'h1 = ff p n := by simp
  change (!p ((List.range n)[ff p n]'h1)) = true at this
  rw [e] at this
  simpa using this
theorem ff_hit (h : k ≤ ff p n) (hk : k < n) (hp : p k = false) : ff p n = k := by
  rcases Nat.lt_or_ge k (ff p n) with h1 | h1
  · rw [ff_before h1] at hp; cases hp
  · omega
theorem ff_step (h : k ≤ ff p n) (hk : k < n) (hp : p k = true) : k + 1 ≤ ff p n := by
  rcases Nat.lt_or_ge k (ff p n) with h1 | h1
  · exact h1
  · have e : ff p n = k := by omega
    have := ff_at (p := p) (n := n) (by omega)
    rw [e, hp] at this; cases this
theorem ff_end (h : n ≤ ff p n) : ff p n = n := Nat.le_antisymm ff_le h
theorem ff_all : ff p n = n ↔ ∀ i, i < n → p i = true := by
  constructor
  · intro h i hi; exact ff_before (n := n) (by omega)
  · intro h
    rcases Nat.lt_or_ge (ff p n) n with h1 | h1
    · have := ff_at h1
      rw [h _ h1] at this; cases this
    · exact ff_end h1
theorem ff_congr {q : Nat → Bool} (h : ∀ i, i < n → p i = q i) : ff p n = ff q n := by
  have hp := @ff_le p n
  have hq := @ff_le q n
  rcases Nat.lt_or_ge (ff p n) n with h1 | h1
  · have a := ff_at h1
    rw [h _ h1] at a
    refine (ff_hit ?_ h1 a).symm
    rcases Nat.lt_or_ge (ff q n) (ff p n) with h2 | h2
    · have b := ff_at (p := q) (n := n) (by omega)
      rw [← h _ (by omega), ff_before h2] at b; cases b
    · exact h2
  · have e := ff_end h1
    rw [e]
    exact (ff_all.2 fun i hi => by rw [← h i hi]; exact ff_before (n := n) (by omega)).symm
end

/-- a material -/
structure Mt where
  n : By
  s : Bool
  l : Bool
  f : Bool
  fd : Int
  a : Int
  b : Int
  c : Int
  deriving DecidableEq, Inhabited

def air : Mt := ⟨[97, 105, 114], false, false, false, 1, 0, 0, 0⟩
def dark : Mt := ⟨[], false, false, false, 16, 0, 0, 0⟩
def wGas : By := [103, 97, 115]
def wSolid : By := [115, 111, 108, 105, 100]
def wFalling : By := [102, 97, 108, 108, 105, 110, 103]
def wLiquid : By := [108, 105, 113, 117, 105, 100]
def wFade : By := [102, 97, 100, 101]
def wEmit : By := [101, 109, 105, 116]
/-- the name of a kind -/
def kd (s l f : Bool) : Option By :=
  if !s && !l && !f then some wGas else if s && !l && !f then some wSolid else if s && !l && f then some wFalling else if !s && l && !f then some wLiquid else none
/-- the kind of a name: solid, liquid, falling -/
def kn (w : By) : Option (Bool × Bool × Bool) :=
  if w = wGas then some (false, false, false) else if w = wSolid then some (true, false, false) else if w = wFalling then some (true, false, true) else if w = wLiquid then some (false, true, false) else none
def letter (b : UInt8) : Bool := decide (97 ≤ b.toNat) && decide (b.toNat ≤ 122)
def okc (l : By) (i : Nat) : Bool := letter (byt l i) || (decide (byt l i = 45) && decide (i ≠ 0) && decide (i + 1 ≠ l.length))
def nameOk (l : By) : Bool := decide (1 ≤ l.length) && decide (l.length ≤ 32) && decide (ff (okc l) l.length = l.length)
def lightOk (x : Int) : Bool := decide (0 ≤ x) && decide (x ≤ 15)
def vld (m : Mt) : Bool := (kd m.s m.l m.f).isSome && (lightOk m.a && lightOk m.b && lightOk m.c) && (nameOk m.n && decide (1 ≤ m.fd) && decide (m.fd ≤ 16))
/-- material k of a table -/
def tat (ms : List Mt) (k : Nat) : Mt := ms.getD k default
/-- the first material with a name, else the length -/
def fnd (ms : List Mt) (n : By) : Nat := ff (fun i => !decide ((tat ms i).n = n)) ms.length
def okAt (ms : List Mt) (i : Nat) : Bool := vld (tat ms i) && decide (fnd ms (tat ms i).n = i)
def check (ms : List Mt) : Int × Int :=
  if 256 < ms.length then (-1, 2) else if ms.length = 0 then (-1, 1) else if tat ms 0 ≠ air then (0, 1) else
  if ff (okAt ms) ms.length = ms.length then (0, 0) else
  if vld (tat ms (ff (okAt ms) ms.length)) then ((ff (okAt ms) ms.length : Int), 10) else ((ff (okAt ms) ms.length : Int), 1)
def find (ms : List Mt) (n : By) : Int × Bool := if fnd ms n < ms.length then ((fnd ms n : Int), true) else (0, false)
/-- the material of a cell -/
def mat_of (ms : List Mt) (k : Int) : Mt := if k < 0 ∨ (ms.length : Int) ≤ k then dark else tat ms k.toNat

/-- the word for a kind, whatever the material -/
def kw (m : Mt) : By := if m.f then wFalling else if m.s then wSolid else if m.l then wLiquid else wGas
theorem kd_kw {m : Mt} (h : (kd m.s m.l m.f).isSome = true) : kd m.s m.l m.f = some (kw m) := by
  obtain ⟨n, s, l, f, fd, a, b, c⟩ := m
  revert h
  cases s <;> cases l <;> cases f <;> simp [kd, kw]
theorem kn_kd (s l f : Bool) (w : By) : kn w = some (s, l, f) ↔ kd s l f = some w := by
  constructor
  · intro h
    unfold kn at h
    split at h
    · next e => cases h; rw [e]; rfl
    · split at h
      · next e => cases h; rw [e]; rfl
      · split at h
        · next e => cases h; rw [e]; rfl
        · split at h
          · next e => cases h; rw [e]; rfl
          · cases h
  · intro h
    cases s <;> cases l <;> cases f <;> simp [kd] at h <;> subst h <;> decide
/-- a line, without the newline -/
def dark3 (m : Mt) : Bool := decide (m.a = 0 ∧ m.b = 0 ∧ m.c = 0)
def line (m : Mt) : By :=
  m.n ++ [32] ++ kw m ++ [32] ++ wFade ++ [32] ++ Lib.itoa m.fd ++ (if dark3 m then [] else [32] ++ wEmit ++ [32] ++ Lib.itoa m.a ++ [32] ++ Lib.itoa m.b ++ [32] ++ Lib.itoa m.c)
def lines (ms : List Mt) : By := ms.flatMap (fun m => line m ++ [10])
def print (ms : List Mt) : By × Int := if (check ms).2 = 0 then (lines ms, 0) else ([], (check ms).2)

/-- what stands before and behind the first c -/
def cut (c : UInt8) : By → By × By × Bool
  | [] => ([], [], false)
  | b :: r => if b = c then ([], r, true) else (b :: (cut c r).1, (cut c r).2.1, (cut c r).2.2)
/-- a line divided at its blanks -/
def words (l : By) : List By := match l with
  | [] => [[]]
  | b :: r => if b = 32 then [] :: words r else match words r with
    | w :: ws => (b :: w) :: ws
    | [] => [[b]]
/-- a number of at most three digits without superfluous zeros -/
def num (w : By) : Option Nat := if 1 ≤ w.length ∧ w.length ≤ 3 ∧ (w.length = 1 ∨ w.getD 0 0 ≠ 48) then Lib.decFrom 0 w else none
def mat4 (n k f d : By) : Option Mt := match kn k, num d with
  | some (s, l, x), some v => if n ≠ [] ∧ f = wFade then some ⟨n, s, l, x, (v : Int), 0, 0, 0⟩ else none
  | _, _ => none
def emit3 (e x y z : By) : Option (Nat × Nat × Nat) := match num x, num y, num z with
  | some a, some b, some c => if e = wEmit ∧ ¬ (a = 0 ∧ b = 0 ∧ c = 0) then some (a, b, c) else none
  | _, _, _ => none
/-- the material of a line's words -/
def matw : List By → Option Mt
  | [n, k, f, d] => mat4 n k f d
  | [n, k, f, d, e, x, y, z] => match mat4 n k f d, emit3 e x y z with
    | some m, some (a, b, c) => some { m with a := (a : Int), b := (b : Int), c := (c : Int) }
    | _, _ => none
  | _ => none
def mat (l : By) : Option Mt := matw (words l)
/-- a text divided at its newlines: the lines, and what stands behind the last newline -/
def linesOf : By → List By × By
  | [] => ([], [])
  | b :: r => if b = 10 then ([] :: (linesOf r).1, (linesOf r).2) else match (linesOf r).1 with
    | l :: ls => ((b :: l) :: ls, (linesOf r).2)
    | [] => ([], b :: (linesOf r).2)
def good (ls : List By) (i : Nat) : Bool := (mat (ls.getD i [])).isSome
def mats (ls : List By) : List Mt := ls.filterMap mat
def parse (t : By) : List Mt × Int × Int :=
  if ff (good (linesOf t).1) (linesOf t).1.length < (linesOf t).1.length ∨ (linesOf t).2 ≠ [] then ([], (ff (good (linesOf t).1) (linesOf t).1.length : Int) + 1, 3) else
  if (check (mats (linesOf t).1)).2 ≠ 0 then ([], (check (mats (linesOf t).1)).1 + 1, (check (mats (linesOf t).1)).2) else (mats (linesOf t).1, 0, 0)
def dflt : List Mt := [air, ⟨[115, 116, 111, 110, 101], true, false, false, 16, 0, 0, 0⟩, ⟨[103, 108, 97, 115, 115], true, false, false, 1, 0, 0, 0⟩,
  ⟨[108, 97, 109, 112], true, false, false, 16, 15, 14, 10⟩, ⟨[115, 97, 110, 100], true, false, true, 16, 0, 0, 0⟩, ⟨[119, 97, 116, 101, 114], false, true, false, 3, 0, 0, 0⟩,
  ⟨[108, 101, 97, 118, 101, 115], true, false, false, 2, 0, 0, 0⟩, ⟨[101, 109, 98, 101, 114], true, false, false, 16, 9, 3, 0⟩, ⟨[102, 111, 103], false, false, false, 2, 0, 0, 0⟩]
theorem ex1 : parse (print [air, dflt.getD 3 default]).1 = ([air, dflt.getD 3 default], 0, 0) := by decide +kernel
theorem ex2 : check dflt = (0, 0) ∧ find dflt [119, 97, 116, 101, 114] = (5, true) := by decide +kernel
end Go.Proofs.Ytfomieekdbkcnaa.Ma
