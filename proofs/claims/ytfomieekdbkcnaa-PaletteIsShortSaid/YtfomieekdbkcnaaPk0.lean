/-
  Operations on natural numbers as integers and bytes; slices of bytes and truth values; slices made with room. (No program.)
-/
import Derived.Test.YtfomieekdbkcnaaCpo
import Derived.Test.YtfomieekdbkcnaaIop
import Derived.Test.YtfomieekdbkcnaaMab
import Derived.Test.YtfomieekdbkcnaaPk5
namespace Go.Proofs.Ytfomieekdbkcnaa
open Go Go.RowKit
set_option linter.unusedVariables false
set_option linter.unusedSimpArgs false
/-- bytes as cells -/
def bc (l : List UInt8) : List Value := l.map bv
def blc (l : List Bool) : List Value := l.map fun b => Value.bool b
theorem bc_len (l : List UInt8) : (bc l).length = l.length := by simp [bc]
theorem blc_len (l : List Bool) : (blc l).length = l.length := by simp [blc]
theorem bc_app (a b : List UInt8) : bc a ++ bc b = bc (a ++ b) := by simp [bc]
theorem bc_set (l : List UInt8) (k : Nat) (b : UInt8) : (bc l).set k (bv b) = bc (l.set k b) := by simp [bc, List.map_set]
theorem bc_at {l : List UInt8} {k : Nat} {b : UInt8} (h : l[k]? = some b) : (bc l)[k]? = some (.int .u8 (b.toNat : Int)) := by simp [bc, h, bv]
theorem bc_one (l : List UInt8) : ∀ v ∈ bc l, v.oneCell' = true := by
  intro v hv
  simp only [bc, List.mem_map] at hv
  obtain ⟨x, _, rfl⟩ := hv
  rfl
theorem blc_one (l : List Bool) : ∀ v ∈ blc l, v.oneCell' = true := by
  intro v hv
  simp only [blc, List.mem_map] at hv
  obtain ⟨x, _, rfl⟩ := hv
  rfl
theorem bv_n {n : Nat} (h : n < 256) : Value.int .u8 (n : Int) = bv (UInt8.ofNat n) := by
  unfold bv; rw [Pl.u8n h]
section
variable {P : Program} {ev : Operand → Value} {o : Oper} {W : World} {t t' t2 : TypeId} {x y : Operand} {k k' : IntKind}
theorem wrap_n64 {n : Nat} (h : n ≤ 4611686018427387904) : IntKind.i64.wrap (n : Int) = n := IntWalk.i64_in _ (by omega)
theorem wrap_n8 {n : Nat} (h : n < 256) : IntKind.u8.wrap (n : Int) = n := by rw [IntKind.wrap_u8]; omega
theorem op_n_add (a b c : Nat) (hc : a + b = c) (h : c ≤ 4611686018427387904) (ho : o.op = .binOp .add t x y t') (hx : ev x = .int .i64 (a : Int)) (hy : ev y = .int .i64 (b : Int)) : (execOp ev o).run P W = .ok (.value (.int .i64 (c : Int))) W := by
  unfold execOp
  rw [ho]
  simp only [hx, hy]
  go_simp
  rw [show (a : Int) + (b : Int) = (c : Int) by omega, wrap_n64 h]
theorem op_n_sub (a b c : Nat) (hc : a = b + c) (h : c ≤ 4611686018427387904) (ho : o.op = .binOp .sub t x y t') (hx : ev x = .int .i64 (a : Int)) (hy : ev y = .int .i64 (b : Int)) : (execOp ev o).run P W = .ok (.value (.int .i64 (c : Int))) W := by
  have hs : Hid ((a : Int) - (b : Int) = (c : Int)) := Lib.hid (by omega)
  clear hc
  unfold execOp
  rw [ho]
  simp only [hx, hy]
  go_simp
  rw [hs.out, wrap_n64 h]
theorem op_n_mul (a b c : Nat) (hc : a * b = c) (h : c ≤ 4611686018427387904) (ho : o.op = .binOp .mul t x y t') (hx : ev x = .int .i64 (a : Int)) (hy : ev y = .int .i64 (b : Int)) : (execOp ev o).run P W = .ok (.value (.int .i64 (c : Int))) W := by
  unfold execOp
  rw [ho]
  simp only [hx, hy]
  go_simp
  rw [show (a : Int) * (b : Int) = (c : Int) by rw [← hc]; simp, wrap_n64 h]
theorem op_n_quo (a b c : Nat) (hc : a / b = c) (hb : b ≠ 0) (h : a ≤ 4611686018427387904) (ho : o.op = .binOp .quo t x y t') (hx : ev x = .int .i64 (a : Int)) (hy : ev y = .int .i64 (b : Int)) : (execOp ev o).run P W = .ok (.value (.int .i64 (c : Int))) W := by
  have hle : c ≤ a := by rw [← hc]; exact Nat.div_le_self _ _
  have e1 : (binOp .quo t (.int .i64 (a : Int)) (.int .i64 (b : Int))).run P W = .ok (.int .i64 (c : Int)) W := by
    have hb2 : ¬ (b : Int) = 0 := by omega
    simp only [binOp, Op.intDiv, hb2, if_false, ne_eq, not_true_eq_false, Sem.run_pure]
    rw [show (a : Int).tdiv (b : Int) = (c : Int) by rw [← hc]; rfl, wrap_n64 (by omega)]
  unfold execOp
  rw [ho]
  have eg : ∀ u v, (eqGuard .quo t x y u v).run P W = .ok () W := fun _ _ => rfl
  simp only [hx, hy, Sem.run_bind, eg, e1, Result.andThen_ok, Sem.run_pure]
theorem op_n_rem (a b c : Nat) (hc : a % b = c) (hb : b ≠ 0) (ho : o.op = .binOp .rem t x y t') (hx : ev x = .int .i64 (a : Int)) (hy : ev y = .int .i64 (b : Int)) : (execOp ev o).run P W = .ok (.value (.int .i64 (c : Int))) W := by
  have e1 : (binOp .rem t (.int .i64 (a : Int)) (.int .i64 (b : Int))).run P W = .ok (.int .i64 (c : Int)) W := by
    have hb2 : ¬ (b : Int) = 0 := by omega
    simp only [binOp, Op.intDiv, hb2, if_false, ne_eq, not_true_eq_false, Sem.run_pure]
    rw [show (a : Int).tmod (b : Int) = (c : Int) by rw [← hc]; rfl]
  unfold execOp
  rw [ho]
  have eg : ∀ u v, (eqGuard .rem t x y u v).run P W = .ok () W := fun _ _ => rfl
  simp only [hx, hy, Sem.run_bind, eg, e1, Result.andThen_ok, Sem.run_pure]
theorem op_k_shr (a n c : Nat) (hc : a / 2 ^ n = c) (hn : n ≤ k.bits) (ho : o.op = .binOp .shr t x y t') (hx : ev x = .int k (a : Int)) (hy : ev y = .int k' (n : Int)) : (execOp ev o).run P W = .ok (.value (.int k (c : Int))) W := by
  have e1 : (binOp .shr t (.int k (a : Int)) (.int k' (n : Int))).run P W = .ok (.int k (c : Int)) W := by
    have h0 : ¬ (n : Int) < 0 := by omega
    simp only [binOp, Op.shift, h0, if_false, Int.toNat_natCast, Nat.min_eq_left hn, Sem.run_pure]
    rw [show (a : Int).fdiv (2 ^ n) = (c : Int) by rw [Int.fdiv_eq_ediv_of_nonneg _ (by exact Int.le_of_lt (Int.pow_pos (by decide))), ← hc]; simp]
  unfold execOp
  rw [ho]
  have eg : ∀ u v, (eqGuard .shr t x y u v).run P W = .ok () W := fun _ _ => rfl
  simp only [hx, hy, Sem.run_bind, eg, e1, Result.andThen_ok, Sem.run_pure]
theorem op_k_shl (a n c : Nat) (hc : a * 2 ^ n = c) (hn : n ≤ k.bits) (hw : k.wrap (c : Int) = (c : Int)) (ho : o.op = .binOp .shl t x y t') (hx : ev x = .int k (a : Int)) (hy : ev y = .int k' (n : Int)) : (execOp ev o).run P W = .ok (.value (.int k (c : Int))) W := by
  have e1 : (binOp .shl t (.int k (a : Int)) (.int k' (n : Int))).run P W = .ok (.int k (c : Int)) W := by
    have h0 : ¬ (n : Int) < 0 := by omega
    simp only [binOp, Op.shift, h0, if_false, Int.toNat_natCast, Nat.min_eq_left hn, Sem.run_pure]
    rw [show (a : Int) * 2 ^ n = (c : Int) by rw [← hc]; simp, hw]
  unfold execOp
  rw [ho]
  have eg : ∀ u v, (eqGuard .shl t x y u v).run P W = .ok () W := fun _ _ => rfl
  simp only [hx, hy, Sem.run_bind, eg, e1, Result.andThen_ok, Sem.run_pure]
theorem op_n_and1 (a c : Nat) (hc : a % 2 = c) (ha : a ≤ 4611686018427387904) (ho : o.op = .binOp .and t x y t') (hx : ev x = .int .i64 (a : Int)) (hy : ev y = .int .i64 1) : (execOp ev o).run P W = .ok (.value (.int .i64 (c : Int))) W := by
  have e1 : (binOp .and t (.int .i64 (a : Int)) (.int .i64 1)).run P W = .ok (.int .i64 (c : Int)) W := by
    have e : ((BitVec.ofInt 64 (a : Int) &&& BitVec.ofInt 64 1).toNat) = c := by
      rw [show (1 : Int) = ((1 : Nat) : Int) from rfl, BitVec.ofInt_natCast, BitVec.ofInt_natCast, BitVec.toNat_and, BitVec.toNat_ofNat, BitVec.toNat_ofNat, Nat.mod_eq_of_lt (by omega), Nat.mod_eq_of_lt (by omega), Nat.and_one_is_mod, hc]
    have e2 : (BitVec.ofInt IntKind.i64.bits (a : Int) &&& BitVec.ofInt IntKind.i64.bits 1).toNat = c := e
    simp only [binOp, Op.intBits, ne_eq, not_true_eq_false, if_false, Sem.run_pure]
    rw [e2, wrap_n64 (by omega)]
  unfold execOp
  rw [ho]
  have eg : ∀ u v, (eqGuard .and t x y u v).run P W = .ok () W := fun _ _ => rfl
  simp only [hx, hy, Sem.run_bind, eg, e1, Result.andThen_ok, Sem.run_pure]
theorem or_add {a b s : Nat} (ha : a < 2 ^ s) : a ||| b * 2 ^ s = a + b * 2 ^ s := by
  rw [Nat.or_comm, Nat.mul_comm, ← Nat.two_pow_add_eq_or_of_lt ha]; omega
theorem op_n_or (a b s c : Nat) (ha : a < 2 ^ s) (hc : a + b * 2 ^ s = c) (h : c ≤ 4611686018427387904) (ho : o.op = .binOp .or t x y t') (hx : ev x = .int .i64 (a : Int)) (hy : ev y = .int .i64 ((b * 2 ^ s : Nat) : Int)) : (execOp ev o).run P W = .ok (.value (.int .i64 (c : Int))) W := by
  have e1 : (binOp .or t (.int .i64 (a : Int)) (.int .i64 ((b * 2 ^ s : Nat) : Int))).run P W = .ok (.int .i64 (c : Int)) W := by
    have e2 : (BitVec.ofInt IntKind.i64.bits (a : Int) ||| BitVec.ofInt IntKind.i64.bits ((b * 2 ^ s : Nat) : Int)).toNat = c := by
      show (BitVec.ofInt 64 (a : Int) ||| BitVec.ofInt 64 ((b * 2 ^ s : Nat) : Int)).toNat = c
      rw [BitVec.ofInt_natCast, BitVec.ofInt_natCast, BitVec.toNat_or, BitVec.toNat_ofNat, BitVec.toNat_ofNat, Nat.mod_eq_of_lt (by omega), Nat.mod_eq_of_lt (by omega), or_add ha, hc]
    simp only [binOp, Op.intBits, ne_eq, not_true_eq_false, if_false, Sem.run_pure]
    rw [e2, wrap_n64 h]
  unfold execOp
  rw [ho]
  have eg : ∀ u v, (eqGuard .or t x y u v).run P W = .ok () W := fun _ _ => rfl
  simp only [hx, hy, Sem.run_bind, eg, e1, Result.andThen_ok, Sem.run_pure]
theorem op_u8_or (a b s c : Nat) (ha : a < 2 ^ s) (hc : a + b * 2 ^ s = c) (h : c < 256) (ho : o.op = .binOp .or t x y t') (hx : ev x = .int .u8 (a : Int)) (hy : ev y = .int .u8 ((b * 2 ^ s : Nat) : Int)) : (execOp ev o).run P W = .ok (.value (.int .u8 (c : Int))) W := by
  have e1 : (binOp .or t (.int .u8 (a : Int)) (.int .u8 ((b * 2 ^ s : Nat) : Int))).run P W = .ok (.int .u8 (c : Int)) W := by
    have e2 : (BitVec.ofInt IntKind.u8.bits (a : Int) ||| BitVec.ofInt IntKind.u8.bits ((b * 2 ^ s : Nat) : Int)).toNat = c := by
      show (BitVec.ofInt 8 (a : Int) ||| BitVec.ofInt 8 ((b * 2 ^ s : Nat) : Int)).toNat = c
      rw [BitVec.ofInt_natCast, BitVec.ofInt_natCast, BitVec.toNat_or, BitVec.toNat_ofNat, BitVec.toNat_ofNat, Nat.mod_eq_of_lt (by omega), Nat.mod_eq_of_lt (by omega), or_add ha, hc]
    simp only [binOp, Op.intBits, ne_eq, not_true_eq_false, if_false, Sem.run_pure]
    rw [e2, wrap_n8 h]
  unfold execOp
  rw [ho]
  have eg : ∀ u v, (eqGuard .or t x y u v).run P W = .ok () W := fun _ _ => rfl
  simp only [hx, hy, Sem.run_bind, eg, e1, Result.andThen_ok, Sem.run_pure]
theorem op_u8_add (a b c : Nat) (hc : a + b = c) (h : c < 256) (ho : o.op = .binOp .add t x y t') (hx : ev x = .int .u8 (a : Int)) (hy : ev y = .int .u8 (b : Int)) : (execOp ev o).run P W = .ok (.value (.int .u8 (c : Int))) W := by
  unfold execOp
  rw [ho]
  simp only [hx, hy]
  go_simp
  rw [show (a : Int) + (b : Int) = (c : Int) by omega, wrap_n8 h]
theorem op_conv_n8 (a : Nat) (h : a < 256) (ho : o.op = .convert t t2 x) (hx : ev x = .int k (a : Int)) (hs : P.underlying t = some (.int k)) (ht : P.underlying t2 = some (.int .u8)) : (execOp ev o).run P W = .ok (.value (.int .u8 (a : Int))) W := by
  unfold execOp
  rw [ho]
  simp only [hx]
  go_simp
  rw [wrap_n8 h]
/-- string(b) of a slice that is read -/
theorem op_conv_str {e : TypeId} {A : Option Addr} {n c : Nat} {l : List UInt8} (h : SL W 1 A n c (bc l)) (ho : o.op = .convert t t2 x) (hx : ev x = .slice A n c) (hs : P.underlying t = some (.slice e)) (he : P.underlying e = some (.int .u8)) (hd : P.underlying t2 = some .string) : (execOp ev o).run P W = .ok (.value (.string (bstr l))) W := by
  have hl := h.len
  rw [bc_len] at hl
  have h1 := run_convert_lies (P := P) W t e t2 hs he hd A n c l (by omega) (fun hA => h.none0 hA) h.lies
  unfold execOp
  simp only [ho, hx, Sem.run_bind, h1, Result.andThen_ok, Sem.run_pure]
end
section
variable {w0 w : World} {F : Nat → Prop} {L : List HP}
theorem St.toOwnPart {g : Nat} {t : TypeId} {cs xs : List Value} (h : St w0 F (blk g t cs :: L) w) (n c : Nat) (hl : cs.length = c) (hn : n ≤ c) (hm : c ≤ maxLen) (hx : cs.take n = xs) : St w0 F (own (.slice (some ⟨g, 0, none⟩) n c) t 1 n xs :: L) w := by
  obtain ⟨f, ⟨a, r, ha, hr, hd, hfe⟩, hF⟩ := h.sts
  refine ⟨h.chg, f, ⟨a, r, ⟨⟨by rw [← hx, List.length_take, hl]; omega, .inr ⟨g, c, cs.toArray, rfl, Nat.zero_le _, ha.1, hn, hm, by simpa using hl, by simpa using hx⟩⟩, fun k => (ha.2 k).trans ?_⟩, hr, hd, hfe⟩, hF⟩
  simp only [Value.ownBlock, Option.some.injEq]
  exact eq_comm
end
section
variable {P : Program}
/-- a slice of l of n zeros -/
theorem makez_ex {o : Oper} {a : Act} {w0 : World} {F : Nat → Prop} {M : List HP} {X : Value → World → Prop} (t e : TypeId) (z : Value) (hz1 : z.cells = #[z]) (by_ : Nat) (x y : Operand) (ho : o.op = .makeSlice t x y) (ht : P.underlying t = some (.slice e)) (hi : (P.info? e).map (fun i => (i.zero, i.size, i.bytes)) = some (some z, 1, by_))
    (l n : Nat) (hx : a.eval x = .int .i64 (l : Int)) (hy : a.eval y = .int .i64 (n : Int)) (hln : l ≤ n) (hn : n ≤ 2097152) (hb8 : by_ ≤ 8) (W : World) (h : St w0 F M W)
    (k : ∀ g w1, St w0 F (own (.slice (some ⟨g, 0, none⟩) l n) e 1 l (List.replicate l z) :: M) w1 → X (.slice (some ⟨g, 0, none⟩) l n) w1) : ∃ v' w1, (execOp a.eval o).run P W = .ok (.value v') w1 ∧ X v' w1 := by
  cases hie : P.info? e with
  | none => rw [hie] at hi; simp at hi
  | some inf =>
    rw [hie] at hi
    simp only [Option.map_some, Option.some.injEq, Prod.mk.injEq] at hi
    obtain ⟨hz, hsz, hby⟩ := hi
    have hr := run_make (P := P) W t e inf z ht hie hz .i64 .i64 (l : Int) (n : Int) (by omega) (by omega) (by
      rw [hby]
      have : by_ * n ≤ 8 * 2097152 := Nat.mul_le_mul hb8 hn
      have e : ((by_ : Nat) : Int) * ((n : Nat) : Int) = ((by_ * n : Nat) : Int) := by simp
      omega) (by omega)
    simp only [Int.toNat_natCast, hsz, Nat.mul_one] at hr
    have hc : madeCells z.cells n = (List.replicate n z).toArray := by
      rw [hz1]
      simp only [madeCells]
      apply Array.ext
      · simp
      · intro i h1 h2
        simp [Nat.mod_one]
    rw [hc] at hr
    refine ⟨_, _, ?_, k W.heap.size _ ((h.alloc (List.replicate n z) e).toOwnPart l n List.length_replicate hln (by simp only [maxLen]; omega) (by rw [List.take_replicate, Nat.min_eq_left hln]))⟩
    unfold execOp
    simp only [ho, Sem.run_bind, hx, hy, hr, Result.andThen_ok, Sem.run_pure]
end
end Go.Proofs.Ytfomieekdbkcnaa
