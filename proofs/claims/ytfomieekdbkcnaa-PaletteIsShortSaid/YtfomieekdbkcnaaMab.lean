/-
  Materials and tables of materials in memory; two materials compared.
-/
import Derived.Test.YtfomieekdbkcnaaStr
import Derived.Test.YtfomieekdbkcnaaMa1
namespace Go.Proofs.Ytfomieekdbkcnaa
open Go Go.RowKit
set_option linter.unusedVariables false
open Ma (Mt)

/-- the cells of a material -/
def mc (m : Mt) : List Value := [.string (bstr m.n), .bool m.s, .bool m.l, .bool m.f, .int .i64 m.fd, .int .i64 m.a, .int .i64 m.b, .int .i64 m.c]
def mcs (l : List Mt) : List Value := l.flatMap mc
theorem mc_len (m : Mt) : (mc m).length = 8 := rfl
theorem mcs_len (l : List Mt) : (mcs l).length = l.length * 8 := flat_len mc_len l
theorem mcs_append (a b : List Mt) : mcs (a ++ b) = mcs a ++ mcs b := by unfold mcs; exact List.flatMap_append
theorem mcs_one (m : Mt) : mcs [m] = mc m := by simp [mcs]
/-- a table that is read -/
structure Tbl (w : World) (A : Option Addr) (n c : Nat) (ms : List Mt) : Prop where
  len : ms.length = n
  lies : Lies w A (mcs ms)
  cap : n ≤ c
  bnd : c ≤ 9223372036854775807
section
variable {w w' : World} {A : Option Addr} {n c : Nat} {ms : List Mt}
theorem Tbl.gr (h : Tbl w A n c ms) (g : Gr w w') : Tbl w' A n c ms := ⟨h.len, h.lies.below g, h.cap, h.bnd⟩
theorem Tbl.addr (h : Tbl w A n c ms) (hn : 0 < n) : ∃ b o, A = some ⟨b, o, none⟩ := by
  have hne : mcs ms ≠ [] := by
    intro e
    have := mcs_len ms
    rw [e, h.len] at this
    simp at this
    omega
  obtain ⟨b, o, hA, _⟩ := h.lies.at_ hne
  exact ⟨b, o, hA⟩
theorem Tbl.elem {b o : Nat} (h : Tbl w (some ⟨b, o, none⟩) n c ms) {k : Nat} {m : Mt} (hk : ms[k]? = some m) : w.rangeAt b (o + k * 8) (mc m) := Lies.elem mc_len h.lies hk
theorem Tbl.get (h : Tbl w A n c ms) {k : Nat} (hk : k < n) : ms[k]? = some (Ma.tat ms k) := by
  unfold Ma.tat
  rw [List.getD_eq_getElem?_getD, List.getElem?_eq_getElem (by rw [h.len]; exact hk)]; rfl
theorem Tbl.nil (w : World) (c : Nat) (A : Option Addr) (hc : c ≤ 9223372036854775807) : Tbl w A 0 c [] := ⟨rfl, Lies.nil _ _, Nat.zero_le _, hc⟩
theorem Tbl.ofOwn {base : Nat} {e : TypeId} (h : w.ownsRow base e 8 (.slice A n c) n (mcs ms)) : Tbl w A n c ms := by
  obtain ⟨A', c', hv, h1, h2, _⟩ := own_shape h
  injection hv with e1 e2 e3
  subst e3
  have h3 := h.1
  rw [mcs_len] at h3
  exact ⟨by omega, Lies.own h, h1, Nat.le_trans h2 (by simp [maxLen])⟩
end
/-- the part of a material's cells that are the light it gives -/
theorem mc_eq {a b : Mt} (h : mc a = mc b) : a = b := by
  obtain ⟨n, s, l, f, fd, x, y, z⟩ := a
  obtain ⟨n', s', l', f', fd', x', y', z'⟩ := b
  simp only [mc, List.cons.injEq, Value.string.injEq, Value.bool.injEq, Value.int.injEq, and_true, true_and] at h
  obtain ⟨h1, rfl, rfl, rfl, rfl, rfl, rfl, rfl⟩ := h
  rw [bstr_inj h1]
def iv (n : Int) : Value := .int .i64 n
theorem run_part_iv {P : Program} (w : World) (e : TypeId) (he : P.underlying e = some (.int .i64)) (a : List Int) (i : Nat) (hi : i < a.length) :
    (part e (a.map iv).toArray i).run P w = .ok (iv (a.getD i 0)) w := by
  simp [part, isAgg, run_underlying he, hi, iv]
theorem run_loopE {P : Program} (F : Nat → Bool) (G : Nat → Option Bool × Unit → Sem (ForInStep (Option Bool × Unit))) : ∀ (L : List Nat) (w : World),
    (∀ i ∈ L, ∀ s w, (G i s).run P w = .ok (if F i then .yield (none, ()) else .done (some false, ())) w) →
    (forIn L ((none, ()) : Option Bool × Unit) G).run P w = .ok (if L.all F then (none, ()) else (some false, ())) w
  | [], w, _ => by simp
  | i :: r, w, h => by
    rw [List.forIn_cons, Sem.run_bind, h i (by simp)]
    cases hF : F i
    · simp [hF]
    · simp [hF]
      have := run_loopE F G r w (fun j hj => h j (by simp [hj]))
      simpa using this
/-- two arrays of integers compared -/
theorem run_eq_arrI {P : Program} (w : World) (t e : TypeId) (N : Nat) (hu : P.underlying t = some (.array N e)) (he : P.underlying e = some (.int .i64)) (hs : (P.info? e).map (·.size) = some 1) (a b : List Int) (ha : a.length = N) (hb : b.length = N) (d : Nat) :
    (Op.equalIn (d + 2) t (.agg (a.map iv).toArray) (.agg (b.map iv).toArray)).run P w = .ok (decide (a = b)) w := by
  cases hq : P.info? e with
  | none => simp [hq] at hs
  | some inf =>
    have h1 : inf.size = 1 := by simpa [hq] using hs
    rw [Op.equalIn]
    simp only [Sem.run_bind, run_underlying hu, Result.andThen_ok, sizeOf, typeInfo, run_program, hq, Sem.run_pure, h1, Nat.mul_one]
    rw [Std.Legacy.Range.forIn_eq_forIn_range']
    rw [run_loopE (fun i => a.getD i 0 == b.getD i 0)]
    · simp only [Result.andThen_ok]
      have hall : (List.range' [:N].start [:N].size [:N].step).all (fun i => a.getD i 0 == b.getD i 0) = decide (a = b) := by
        rw [Bool.eq_iff_iff, List.all_eq_true, decide_eq_true_iff]
        constructor
        · intro h
          apply List.ext_getElem (by omega)
          intro i h1 h2
          have h3 := h i (by simp [List.mem_range'_1]; omega)
          rw [beq_iff_eq, List.getD_eq_getElem?_getD, List.getElem?_eq_getElem h1, List.getD_eq_getElem?_getD, List.getElem?_eq_getElem h2] at h3
          exact h3
        · rintro rfl i _
          simp
      rw [hall]
      by_cases h : a = b
      · simp [h]
      · simp [h]
    · intro i hi s w
      have hi2 : i < N := by simpa [List.mem_range'_1] using hi
      simp only [Sem.run_bind, run_part_iv w e he a i (by omega), run_part_iv w e he b i (by omega), Result.andThen_ok, iv, run_equalIn_int w d e .i64 .i64 _ _ he]
      by_cases h : a.getD i 0 = b.getD i 0
      · rw [h]; simp
      · have h5 : (a.getD i 0 == b.getD i 0) = false := beq_eq_false_iff_ne.2 h
        rw [h5]
        simp
section
variable {ev : Operand → Value} {o : Oper} {x y : Operand} {t' : TypeId} (W : World)
/-- the cells of a material, by its fields -/
def mtv (n : List UInt8) (s l f : Bool) (fd a b c : Int) : Value := .agg #[.string (bstr n), .bool s, .bool l, .bool f, .int .i64 fd, .int .i64 a, .int .i64 b, .int .i64 c]
end
end Go.Proofs.Ytfomieekdbkcnaa
