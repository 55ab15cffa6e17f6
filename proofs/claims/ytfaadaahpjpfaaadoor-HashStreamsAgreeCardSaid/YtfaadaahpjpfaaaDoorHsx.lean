/-
  Laws: a part of an array, behind a pointer.
-/
import Derived.Test.YtfaadaahpjpfaaaDoorBasec
import Derived.Deep.MidRow
namespace Go.Proofs.YtfaadaahpjpfaaaDoor
open Go.RowKit

theorem run_slice_arr {P : Program} (w : World) (t e : TypeId) (N : Nat) (hu : P.underlying t = some (.array N e)) (hi : (P.info? e).map (·.size) = some 1) (b o : Nat) (kl : IntKind) (l : Int) (m : Nat) (hl : l = (m : Int)) (h : m < N) :
    (Instr.sliceAt t (.pointer (some ⟨b, o, none⟩)) (some (.int kl l)) none none).run P w = .ok (.slice (some ⟨b, o + m, none⟩) (N - m) (N - m)) w := by
  subst hl
  have h1 : P.arrayLen t = N := by simp [Program.arrayLen, hu]
  have h2 : P.elem t = e := by simp [Program.elem, hu]
  rw [run_sliceAt_array_l w t ⟨b, o, none⟩ (by rw [h1, h2]; exact hu) kl (m : Int) (by omega) (by rw [h1]; omega)]
  cases hq : P.info? e with
  | none => simp [hq] at hi
  | some i =>
    have hs : i.size = 1 := by simpa [hq] using hi
    have hne : ¬ N = m := by omega
    simp [sizeOf, typeInfo, h1, h2, hq, hs, slicedAt, hne, Addr.add_lit]

theorem run_slice_arr_end {P : Program} (w : World) (t e : TypeId) (N : Nat) (hu : P.underlying t = some (.array N e)) (hi : (P.info? e).map (·.size) = some 1) (b o : Nat) (kl : IntKind) (l : Int) (hl : l = (N : Int)) :
    (Instr.sliceAt t (.pointer (some ⟨b, o, none⟩)) (some (.int kl l)) none none).run P w = .ok (.slice (some ⟨b, o, none⟩) 0 0) w := by
  subst hl
  have h1 : P.arrayLen t = N := by simp [Program.arrayLen, hu]
  have h2 : P.elem t = e := by simp [Program.elem, hu]
  rw [run_sliceAt_array_l w t ⟨b, o, none⟩ (by rw [h1, h2]; exact hu) kl (N : Int) (by omega) (by rw [h1]; omega)]
  cases hq : P.info? e with
  | none => simp [hq] at hi
  | some i => simp [sizeOf, typeInfo, h1, h2, hq, slicedAt]

theorem run_slice_arr_all {P : Program} (w : World) (t e : TypeId) (N : Nat) (hu : P.underlying t = some (.array N e)) (hi : (P.info? e).map (·.size) = some 1) (b o : Nat) (h : 0 < N) :
    (Instr.sliceAt t (.pointer (some ⟨b, o, none⟩)) none none none).run P w = .ok (.slice (some ⟨b, o, none⟩) N N) w := by
  have h1 : P.arrayLen t = N := by simp [Program.arrayLen, hu]
  have h2 : P.elem t = e := by simp [Program.elem, hu]
  rw [run_sliceAt_array_all w t ⟨b, o, none⟩ (by rw [h1, h2]; exact hu)]
  cases hq : P.info? e with
  | none => simp [hq] at hi
  | some i =>
    have hs : i.size = 1 := by simpa [hq] using hi
    have hne : ¬ N = 0 := by omega
    simp [sizeOf, typeInfo, h1, h2, hq, hs, slicedAt, hne, Addr.add_lit]

/-- a whole array is read, the operation being guarded by a test that came out so -/
theorem wpList_load_mid_g {P : Program} {ops : Array Oper} {rest : List Oper} {op : Oper} {a : Act} {w : World} {Q : Exit → Act → World → Prop} (hw : Region.wanted op (yielded ops a.tmps) = true) (ty : TypeId) (x : Operand) (ho : op.op = .load ty x)
    (b o : Nat) (hx : a.eval x = .pointer (some ⟨b, o, none⟩)) (cs : List Value) (d : TypeDesc) (hc : w.rangeAt b o cs)
    (hu : P.underlying ty = some d) (hd : d.isRow = true) (hi : (P.info? ty).map (·.size) = some cs.length)
    (h : wpList P ops Q rest (a.put op.dst (.agg cs.toArray)) w) : wpList P ops Q (op :: rest) a w :=
  wpList_step fun K hK => by
    rw [if_pos hw]
    exact wp_load_mid ty x ho b o hx cs d hc hu hd hi (hK _ _ h)

end Go.Proofs.YtfaadaahpjpfaaaDoor
