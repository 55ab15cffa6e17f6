/-
  Law: two arrays of bytes are compared.
-/
import Derived.Test.YtfaadaahpjpfaaaDoorHsn
import Derived.Laws.StructEq
namespace Go.Proofs.YtfaadaahpjpfaaaDoor
open Go.RowKit

theorem run_part_byte {P : Program} (w : World) (e : TypeId) (he : P.underlying e = some (.int .u8)) (a : List UInt8) (i : Nat) (hi : i < a.length) :
    (part e (a.map bv).toArray i).run P w = .ok (bv (a.getD i 0)) w := by
  simp [part, isAgg, run_underlying he, hi, bv]

theorem run_loop {P : Program} (F : Nat → Bool) (G : Nat → Option Bool × Unit → Sem (ForInStep (Option Bool × Unit))) : ∀ (L : List Nat) (w : World),
    (∀ i ∈ L, ∀ s w, (G i s).run P w = .ok (if F i then .yield (none, ()) else .done (some false, ())) w) →
    (forIn L ((none, ()) : Option Bool × Unit) G).run P w = .ok (if L.all F then (none, ()) else (some false, ())) w
  | [], w, _ => by simp
  | i :: r, w, h => by
    rw [List.forIn_cons, Sem.run_bind, h i (by simp)]
    cases hF : F i
    · simp [hF]
    · simp [hF]
      have := run_loop F G r w (fun j hj => h j (by simp [hj]))
      simpa using this

theorem run_eq_arr {P : Program} (w : World) (t e : TypeId) (N : Nat) (hu : P.underlying t = some (.array N e)) (he : P.underlying e = some (.int .u8)) (hs : (P.info? e).map (·.size) = some 1) (a b : List UInt8) (ha : a.length = N) (hb : b.length = N) (d : Nat) :
    (Op.equalIn (d + 2) t (.agg (a.map bv).toArray) (.agg (b.map bv).toArray)).run P w = .ok (decide (a = b)) w := by
  cases hq : P.info? e with
  | none => simp [hq] at hs
  | some inf =>
    have h1 : inf.size = 1 := by simpa [hq] using hs
    rw [Op.equalIn]
    simp only [Sem.run_bind, run_underlying hu, Result.andThen_ok, sizeOf, typeInfo, run_program, hq, Sem.run_pure, h1, Nat.mul_one]
    rw [Std.Legacy.Range.forIn_eq_forIn_range']
    rw [run_loop (fun i => a.getD i 0 == b.getD i 0)]
    · simp only [Result.andThen_ok]
      have hall : (List.range' [:N].start [:N].size [:N].step).all (fun i => a.getD i 0 == b.getD i 0) = decide (a = b) := by
        rw [Bool.eq_iff_iff, List.all_eq_true, decide_eq_true_iff]
        constructor
        · intro h
          apply List.ext_getElem (by omega)
          intro i h1 h2
          have h3 := h i (by simp [List.mem_range'_1]; omega)
          rw [beq_iff_eq, List.getD_eq_getElem?_getD, List.getElem?_eq_getElem h1, List.getD_eq_getElem?_getD, List.getElem?_eq_getElem h2] at h3
          exact h3
        · rintro rfl i _
          simp
      rw [hall]
      by_cases h : a = b
      · simp [h]
      · simp [h]
    · intro i hi s w
      have hi2 : i < N := by simpa [List.mem_range'_1] using hi
      simp only [Sem.run_bind, run_part_byte w e he a i (by omega), run_part_byte w e he b i (by omega), Result.andThen_ok, bv, run_equalIn_int w d e .u8 .u8 _ _ he]
      by_cases h : a.getD i 0 = b.getD i 0
      · rw [h]; simp
      · have h2 : ¬ ((a.getD i 0).toNat : Int) = ((b.getD i 0).toNat : Int) := fun h3 => h (UInt8.toNat_inj.1 (by omega))
        have h4 : (((a.getD i 0).toNat : Int) == ((b.getD i 0).toNat : Int)) = false := beq_eq_false_iff_ne.2 h2
        have h5 : (a.getD i 0 == b.getD i 0) = false := beq_eq_false_iff_ne.2 h
        rw [h4, h5]
        simp

theorem run_eq32 (w : World) (a b : List UInt8) (ha : a.length = 32) (hb : b.length = 32) : (Op.equalIn 10000 24 (.agg (a.map bv).toArray) (.agg (b.map bv).toArray)).run Tryd.prog w = .ok (decide (a = b)) w :=
  run_eq_arr w 24 5 32 Tryd.underlying24 Tryd.underlying5 (by kernel_rfl) a b ha hb 9998
theorem run_eq16 (w : World) (a b : List UInt8) (ha : a.length = 16) (hb : b.length = 16) : (Op.equalIn 10000 44 (.agg (a.map bv).toArray) (.agg (b.map bv).toArray)).run Tryd.prog w = .ok (decide (a = b)) w :=
  run_eq_arr w 44 5 16 Tryd.underlying44 Tryd.underlying5 (by kernel_rfl) a b ha hb 9998

end Go.Proofs.YtfaadaahpjpfaaaDoor
