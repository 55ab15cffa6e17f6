/-
  Laws for the walk: a conversion of bytes to a string; append of a string.
-/
import Derived.Test.YtfomieekdbkcnaaBase
import Derived.Deep.MidRow
import Derived.Deep.WholeRow
namespace Go.Proofs.Ytfomieekdbkcnaa
open Go.RowKit

theorem ba_len (s : ByteArray) : s.data.toList.length = s.size := by rw [Array.length_toList]; rfl
theorem Lies.none_ {w : World} {A : Option Addr} {l : List UInt8} (h : Lies w A (l.map bv)) (hA : A = none) : l = [] := by
  rcases h with h | ⟨b, o, h', _⟩
  · simpa using h
  · rw [hA] at h'; cases h'

theorem wpList_convert_str {P : Program} (w : World) {ops : Array Oper} {rest : List Oper} {o : Oper} {a : Act} {Q : Exit → Act → World → Prop} (hgd : o.guard = none) (s : Operand) (src dst e : TypeId)
    (ho : o.op = .convert src dst s) (hs : P.underlying src = some (.slice e)) (he : P.underlying e = some (.int .u8)) (hd : P.underlying dst = some .string)
    (A : Option Addr) (n c : Nat) (hv : a.eval s = .slice A n c) (l : List UInt8) (hn : l.length = n) (hA : A = none → n = 0) (hl : Lies w A (l.map bv))
    (h : wpList P ops Q rest (a.put o.dst (.string (bstr l))) w) : wpList P ops Q (o :: rest) a w := by
  refine wpList_plain hgd fun K hK => ?_
  have hr := run_convert_lies (P := P) w src e dst hs he hd A n c l hn hA hl
  unfold Oper.wp execOp
  simp only [ho, Sem.run_bind, hv, hr, Result.andThen_ok, Sem.run_pure]
  exact hK _ _ h

/-- a whole array or struct is stored into the block that was made last -/
theorem wpList_store_new {P : Program} (w : World) {ops : Array Oper} {rest : List Oper} {op : Oper} {a : Act} {Q : Exit → Act → World → Prop} (hgd : op.guard = none) (t : TypeId) (x y : Operand) (ho : op.op = .store t x y)
    (c c' : Array Value) (hx : a.eval x = .pointer (some ⟨w.heap.size, 0, none⟩)) (hy : a.eval y = .agg c')
    (hi : (P.info? t).map (·.size) = some c'.size) (hc : c.size = c'.size) (h1 : c'.all (·.oneCell') = true)
    (h : wpList P ops Q rest (a.put op.dst undef) (w.alloc (.cells c' t))) : wpList P ops Q (op :: rest) a (w.alloc (.cells c t)) := by
  refine wpList_plain hgd fun K hK => ?_
  unfold Oper.wp execOp
  simp only [ho, hx, hy, Sem.run_bind, Result.andThen_ok, run_storeAt_new w t c c' hi hc h1]
  exact hK _ _ h

/-- a whole array or struct is read out of the block that was made last -/
theorem wpList_load_new {P : Program} (w : World) {ops : Array Oper} {rest : List Oper} {op : Oper} {a : Act} {Q : Exit → Act → World → Prop} (hgd : op.guard = none) (t : TypeId) (x : Operand) (ho : op.op = .load t x)
    (c : Array Value) (hx : a.eval x = .pointer (some ⟨w.heap.size, 0, none⟩)) (n : Nat) (e : TypeId) (hu : P.underlying t = some (.array n e))
    (hi : (P.info? t).map (·.size) = some c.size)
    (h : wpList P ops Q rest (a.put op.dst (.agg c)) (w.alloc (.cells c t))) : wpList P ops Q (op :: rest) a (w.alloc (.cells c t)) := by
  refine wpList_plain hgd fun K hK => ?_
  unfold Oper.wp execOp
  simp only [ho, hx, Sem.run_bind, Result.andThen_ok, run_loadAt_new w t c n e hu hi]
  exact hK _ _ h

theorem Lies.new (w : World) (l : List Value) (t : TypeId) : Lies (w.alloc (.cells l.toArray t)) (some ⟨w.heap.size, 0, none⟩) l :=
  .inr ⟨_, _, rfl, fun j u hu => by rw [cell_of_row _ _ _ _ _ _ (heap_alloc_last w _)]; simpa using hu⟩
theorem Lies.range {w : World} {b o : Nat} {l : List Value} (h : Lies w (some ⟨b, o, none⟩) l) : w.rangeAt b o l := by
  rcases h with h | ⟨b', o', hA, hc⟩
  · subst h; intro j v hj; simp at hj
  · injection hA with hA
    injection hA with h1 h2
    subst h1 h2
    exact hc

end Go.Proofs.Ytfomieekdbkcnaa
