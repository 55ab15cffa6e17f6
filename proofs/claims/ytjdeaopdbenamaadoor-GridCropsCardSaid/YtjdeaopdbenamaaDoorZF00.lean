/-
  Integers read as values.
-/
import Derived.Handy
namespace Go.Proofs.YtjdeaopdbenamaaDoor
instance coeI : Coe Int Go.Value := ⟨fun n => .int .i64 n⟩
instance coeU : Coe Unit Go.Value := ⟨fun _ => .int .i64 0⟩
end Go.Proofs.YtjdeaopdbenamaaDoor
