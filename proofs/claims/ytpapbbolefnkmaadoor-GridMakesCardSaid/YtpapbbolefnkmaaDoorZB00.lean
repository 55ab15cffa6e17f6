/-
  Integers read as values.
-/
import Derived.Handy
namespace Go.Proofs.YtpapbbolefnkmaaDoor
instance coeI : Coe Int Go.Value := ⟨fun n => .int .i64 n⟩
instance coeU : Coe Unit Go.Value := ⟨fun _ => .int .i64 0⟩
theorem zA {α : Type} {l : List α} {i : Nat} {a : α} : l.toArray.setIfInBounds i a = (l.set i a).toArray := List.setIfInBounds_toArray ..
theorem zB {α : Type} {x : α} {xs : List α} {a : α} : (x :: xs).set 0 a = a :: xs := rfl
theorem zC {α : Type} {x : α} {xs : List α} {i : Nat} {a : α} : (x :: xs).set (i + 1) a = x :: xs.set i a := rfl
end Go.Proofs.YtpapbbolefnkmaaDoor
