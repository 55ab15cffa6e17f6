/-
  Laws: copy of a whole array's bytes into the block that was made last; a function whose first of three results is an array.
-/
import Derived.Test.YtmjjkloeipoefaaBaseb
namespace Go.Proofs.Ytmjjkloeipoefaa
open Go.RowKit

theorem below_setCells {B b : Nat} (hb : B ≤ b) : ∀ (vs : List Value) (o : Nat) (w0 w : World), Below B w0 w → Below B w0 (w.setCells b o vs)
  | [], _, _, _, h => h
  | v :: vs, o, w0, _, h => below_setCells hb vs (o + 1) w0 _ (h.setCell (p := ⟨b, o, none⟩) hb v)

end Go.Proofs.Ytmjjkloeipoefaa
