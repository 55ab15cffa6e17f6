/-
  Strings as lists of bytes: what the operations on them yield. (No program but the type of strings.)
-/
import Derived.Test.YtfomieekdbkcnaaSx
import Derived.Test.YtfomieekdbkcnaaMa1
import Derived.Laws.DeepStrings4
namespace Go.Proofs.Ytfomieekdbkcnaa
open Go Go.RowKit
set_option linter.unusedVariables false

theorem ba_beq (a b : List UInt8) : ((bstr a).toList == (bstr b).toList) = decide (a = b) := by
  rw [ByteArray.toList_eq, ByteArray.toList_eq]
  show (a == b) = decide (a = b)
  by_cases h : a = b
  · simp [h]
  · simp [h]
theorem bnt {x : Bool} (h : true = !x) : x = false := by cases x <;> simp_all
theorem bnf {x : Bool} (h : false = !x) : x = true := by cases x <;> simp_all
theorem rb_t {x : Bool} (h : x = true) : Ending.returned (Value.bool true) = Ending.returned (Value.bool x) := by rw [h]
theorem rb_f {x : Bool} (h : x = false) : Ending.returned (Value.bool false) = Ending.returned (Value.bool x) := by rw [h]
section
variable {ev : Operand → Value} {o : Oper} {x y z : Operand} {t t' : TypeId} {a b : List UInt8} (W : World)
theorem op_str_eql (a b : List UInt8) (ho : o.op = .binOp .eql t x y t') (hx : ev x = .string (bstr a)) (hy : ev y = .string (bstr b)) (ht : Try.prog.underlying t = some .string) : (execOp ev o).run Try.prog W = .ok (.value (.bool (decide (a = b)))) W := by
  unfold execOp
  rw [ho]
  simp only [hx, hy]
  rw [← ba_beq]
  go_simp
theorem op_str_neq (a b : List UInt8) (ho : o.op = .binOp .neq t x y t') (hx : ev x = .string (bstr a)) (hy : ev y = .string (bstr b)) (ht : Try.prog.underlying t = some .string) : (execOp ev o).run Try.prog W = .ok (.value (.bool (decide (a ≠ b)))) W := by
  unfold execOp
  rw [ho]
  simp only [hx, hy]
  rw [show decide (a ≠ b) = !decide (a = b) by simp, ← ba_beq]
  go_simp
theorem op_str_add (a b : List UInt8) (hl : a.length + b.length ≤ 9223372036854775807) (ho : o.op = .binOp .add t x y t') (hx : ev x = .string (bstr a)) (hy : ev y = .string (bstr b)) (ht : Try.prog.underlying t = some .string) : (execOp ev o).run Try.prog W = .ok (.value (.string (bstr (a ++ b)))) W := by
  unfold execOp
  rw [ho]
  simp only [hx, hy]
  have h1 : ¬ ((((bstr a).size + (bstr b).size : Nat) : Int) > IntKind.i64.max) := by rw [bstr_size, bstr_size, show IntKind.i64.max = 9223372036854775807 by rfl]; omega
  have h2 : bstr a ++ bstr b = bstr (a ++ b) := by
    apply ByteArray.ext
    show (bstr a ++ bstr b).data = _
    rw [ByteArray.data_append]
    simp [bstr]
  rw [← h2]
  have e : (binOp .add t (.string (bstr a)) (.string (bstr b))).run Try.prog W = .ok (.string (bstr a ++ bstr b)) W := by
    rw [binOp_string_add]
    unfold Op.stringOp
    simp only [h1, if_false]
    rfl
  simp [eqGuard, e]
theorem op_str_len (a : List UInt8) (ho : o.op = .call { callee := .builtin .len, args := #[x], argTypes := #[t] }) (hx : ev x = .string (bstr a)) (ht : Try.prog.underlying t = some .string) : (execOp ev o).run Try.prog W = .ok (.value (.int .i64 (a.length : Int))) W := by
  unfold execOp
  rw [ho]
  have := bstr_size a
  go_simp
theorem op_str_idx (a : List UInt8) (k : Nat) (hk : k < a.length) (ho : o.op = .index t x y) (hx : ev x = .string (bstr a)) (hy : ev y = .int .i64 (k : Int)) (ht : Try.prog.underlying t = some .string) : (execOp ev o).run Try.prog W = .ok (.value (.int .u8 ((Ma.byt a k).toNat : Int))) W := by
  unfold execOp
  rw [ho]
  simp only [hx, hy]
  have hs := bstr_size a
  have h1 : (0 : Int) ≤ (k : Int) ∧ (k : Int) < ((bstr a).size : Int) := by rw [hs]; omega
  have e : (Instr.index t (.string (bstr a)) (.int .i64 (k : Int))).run Try.prog W = .ok (.int .u8 ((Ma.byt a k).toNat : Int)) W := by
    rw [run_index_string (h := ht), dif_pos h1]
    have hb : ∀ (i : Nat) (hi : i < (bstr a).size), i = k → (bstr a)[i]'hi = Ma.byt a k := by
      intro i hi hik
      subst hik
      unfold Ma.byt
      rw [List.getD_eq_getElem?_getD, List.getElem?_eq_getElem hk]
      rfl
    rw [hb _ _ (by omega)]
  simp [e]
theorem bstr_extract (a : List UInt8) (i j : Nat) (hj : j ≤ a.length) : (bstr a).extract i j = bstr ((a.take j).drop i) := by
  apply ByteArray.ext
  rw [ByteArray.data_extract]
  show (a.toArray).extract i j = _
  simp [bstr, List.drop_take]
theorem op_str_slice (a : List UInt8) (i j : Nat) (hij : i ≤ j) (hj : j ≤ a.length) (ho : o.op = .slice t x (some y) (some z) none) (hx : ev x = .string (bstr a)) (hy : ev y = .int .i64 (i : Int)) (hz : ev z = .int .i64 (j : Int)) (ht : Try.prog.underlying t = some .string) : (execOp ev o).run Try.prog W = .ok (.value (.string (bstr ((a.take j).drop i)))) W := by
  unfold execOp
  rw [ho]
  simp only [hx, hy, hz, Option.map_some, Option.map_none]
  have hs := bstr_size a
  have e : (Instr.sliceAt t (.string (bstr a)) (some (.int .i64 (i : Int))) (some (.int .i64 (j : Int))) none).run Try.prog W = .ok (.string (bstr ((a.take j).drop i))) W := by
    rw [← bstr_extract a i j hj, run_sliceAt_string (h := ht), run_slice_string_if (h := ht)]
    simp only [hs]
    go_simp
    repeat' split
    all_goals first | rfl | omega
  simp [e]
theorem op_str_upto (a : List UInt8) (j : Nat) (hj : j ≤ a.length) (ho : o.op = .slice t x none (some z) none) (hx : ev x = .string (bstr a)) (hz : ev z = .int .i64 (j : Int)) (ht : Try.prog.underlying t = some .string) : (execOp ev o).run Try.prog W = .ok (.value (.string (bstr (a.take j)))) W := by
  unfold execOp
  rw [ho]
  simp only [hx, hz, Option.map_some, Option.map_none]
  have hs := bstr_size a
  have e : (Instr.sliceAt t (.string (bstr a)) none (some (.int .i64 (j : Int))) none).run Try.prog W = .ok (.string (bstr (a.take j))) W := by
    have h0 := bstr_extract a 0 j hj
    rw [List.drop_zero] at h0
    rw [← h0, run_sliceAt_string (h := ht)]
    have h1 : (j : Int) ≤ (a.length : Int) := by omega
    have h2 : ((0 : Int) ≤ (j : Int) ∧ (j : Int) ≤ (a.length : Int)) := ⟨by omega, h1⟩
    simp [Instr.slice, run_underlying ht, Instr.sliceBounds, Instr.sliceBound, asIntOf, hs, hj]
  simp [e]
theorem op_str_from (a : List UInt8) (i : Nat) (hi : i ≤ a.length) (ho : o.op = .slice t x (some y) none none) (hx : ev x = .string (bstr a)) (hy : ev y = .int .i64 (i : Int)) (ht : Try.prog.underlying t = some .string) : (execOp ev o).run Try.prog W = .ok (.value (.string (bstr (a.drop i)))) W := by
  unfold execOp
  rw [ho]
  simp only [hx, hy, Option.map_some, Option.map_none]
  have hs := bstr_size a
  have e : (Instr.sliceAt t (.string (bstr a)) (some (.int .i64 (i : Int))) none none).run Try.prog W = .ok (.string (bstr (a.drop i))) W := by
    have h0 := bstr_extract a i a.length (Nat.le_refl _)
    rw [List.take_length] at h0
    rw [← h0, run_sliceAt_string (h := ht)]
    simp [Instr.slice, run_underlying ht, Instr.sliceBounds, Instr.sliceBound, asIntOf, hs, hi]
  simp [e]
end
section
variable {ev : Operand → Value} {o : Oper} {x y : Operand} {t t' : TypeId} {k : IntKind} (W : World)
theorem op_int_eql (a b : Int) (ho : o.op = .binOp .eql t x y t') (hx : ev x = .int k a) (hy : ev y = .int k b) (ht : Try.prog.underlying t = some (.int k)) : (execOp ev o).run Try.prog W = .ok (.value (.bool (decide (a = b)))) W := by
  unfold execOp
  rw [ho]
  simp only [hx, hy]
  first | (go_simp; done) | (go_simp <;> (by_cases h : a = b <;> simp [h]))
theorem op_int_neq (a b : Int) (ho : o.op = .binOp .neq t x y t') (hx : ev x = .int k a) (hy : ev y = .int k b) (ht : Try.prog.underlying t = some (.int k)) : (execOp ev o).run Try.prog W = .ok (.value (.bool (decide (a ≠ b)))) W := by
  unfold execOp
  rw [ho]
  simp only [hx, hy]
  first | (go_simp; done) | (go_simp <;> (by_cases h : a = b <;> simp [h]))
theorem op_int_lss (a b : Int) (ho : o.op = .binOp .lss t x y t') (hx : ev x = .int k a) (hy : ev y = .int k b) (ht : Try.prog.underlying t = some (.int k)) : (execOp ev o).run Try.prog W = .ok (.value (.bool (decide (a < b)))) W := by
  unfold execOp
  rw [ho]
  simp only [hx, hy]
  first | (go_simp; done) | (go_simp <;> (by_cases h : a = b <;> simp [h]))
theorem op_int_leq (a b : Int) (ho : o.op = .binOp .leq t x y t') (hx : ev x = .int k a) (hy : ev y = .int k b) (ht : Try.prog.underlying t = some (.int k)) : (execOp ev o).run Try.prog W = .ok (.value (.bool (decide (a ≤ b)))) W := by
  unfold execOp
  rw [ho]
  simp only [hx, hy]
  first | (go_simp; done) | (go_simp <;> (by_cases h : a = b <;> simp [h]))
theorem op_int_gtr (a b : Int) (ho : o.op = .binOp .gtr t x y t') (hx : ev x = .int k a) (hy : ev y = .int k b) (ht : Try.prog.underlying t = some (.int k)) : (execOp ev o).run Try.prog W = .ok (.value (.bool (decide (a > b)))) W := by
  unfold execOp
  rw [ho]
  simp only [hx, hy]
  first | (go_simp; done) | (go_simp <;> (by_cases h : a = b <;> simp [h]))
theorem op_int_geq (a b : Int) (ho : o.op = .binOp .geq t x y t') (hx : ev x = .int k a) (hy : ev y = .int k b) (ht : Try.prog.underlying t = some (.int k)) : (execOp ev o).run Try.prog W = .ok (.value (.bool (decide (a ≥ b)))) W := by
  unfold execOp
  rw [ho]
  simp only [hx, hy]
  first | (go_simp; done) | (go_simp <;> (by_cases h : a = b <;> simp [h]))
theorem op_conv_i64 (a : Int) {t2 : TypeId} (h : -9223372036854775808 ≤ a ∧ a ≤ 9223372036854775807) (ho : o.op = .convert t t2 x) (hx : ev x = .int k a) (hs : Try.prog.underlying t = some (.int k)) (ht : Try.prog.underlying t2 = some (.int .i64)) : (execOp ev o).run Try.prog W = .ok (.value (.int .i64 a)) W := by
  unfold execOp
  rw [ho]
  simp only [hx]
  go_simp
  rw [IntWalk.i64_in _ h]
theorem op_i_add (a b : Int) (h : -9223372036854775808 ≤ a + b ∧ a + b ≤ 9223372036854775807) (ho : o.op = .binOp .add t x y t') (hx : ev x = .int .i64 a) (hy : ev y = .int .i64 b) (ht : Try.prog.underlying t = some (.int .i64)) : (execOp ev o).run Try.prog W = .ok (.value (.int .i64 (a + b))) W := by
  unfold execOp
  rw [ho]
  simp only [hx, hy]
  go_simp
  rw [IntWalk.i64_in _ h]
theorem op_i_sub (a b : Int) (h : -9223372036854775808 ≤ a - b ∧ a - b ≤ 9223372036854775807) (ho : o.op = .binOp .sub t x y t') (hx : ev x = .int .i64 a) (hy : ev y = .int .i64 b) (ht : Try.prog.underlying t = some (.int .i64)) : (execOp ev o).run Try.prog W = .ok (.value (.int .i64 (a - b))) W := by
  unfold execOp
  rw [ho]
  simp only [hx, hy]
  go_simp
  rw [IntWalk.i64_in _ h]
theorem op_i_mul (a b : Int) (h : -9223372036854775808 ≤ a * b ∧ a * b ≤ 9223372036854775807) (ho : o.op = .binOp .mul t x y t') (hx : ev x = .int .i64 a) (hy : ev y = .int .i64 b) (ht : Try.prog.underlying t = some (.int .i64)) : (execOp ev o).run Try.prog W = .ok (.value (.int .i64 (a * b))) W := by
  unfold execOp
  rw [ho]
  simp only [hx, hy]
  go_simp
  rw [IntWalk.i64_in _ h]
end
end Go.Proofs.Ytfomieekdbkcnaa
