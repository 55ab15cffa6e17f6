/-
  Plain mathematics: decoding a list of elements.
-/
import Derived.Test.YtfaadaahpjpfaaaDoorMath
namespace Go.Proofs.YtfaadaahpjpfaaaDoor
namespace Wm

/-- n elements are decoded, each by g; acc: those before; used: the bytes before -/
def elems {α : Type} (g : List UInt8 → α × Nat × Int) : Nat → List α → Nat → List UInt8 → List α × Nat × Int
  | 0, acc, used, _ => (acc, used, 0)
  | n + 1, acc, used, r => if (g r).2.2 ≠ 0 then ([], 0, (g r).2.2) else elems g n (acc ++ [(g r).1]) (used + (g r).2.1) (r.drop (g r).2.1)

def getL {α : Type} (size : Nat) (g : List UInt8 → α × Nat × Int) (l : List UInt8) : List α × Nat × Int :=
  if (getLen size l).2.2 ≠ 0 then ([], 0, (getLen size l).2.2)
  else elems g (getLen size l).1.toNat [] (getLen size l).2.1 (l.drop (getLen size l).2.1)

theorem getS_used (l : List UInt8) : (getS l).2.1 ≤ l.length := by
  unfold getS
  have h := @getLen_bd 1 l
  split
  · simp
  · simp only; omega
/-- sixteen bytes -/
def getD (l : List UInt8) : List UInt8 × Nat × Int := (l.take 16, 16, 0)

end Wm
end Go.Proofs.YtfaadaahpjpfaaaDoor
