
/- The landed subset's Number, Place, Hypos; slices.Index over ints. -/
import Derived.Test.YtldbkompebefmaaDoorLtLanA
import Derived.Test.YtldbkompebefmaaDoorSp
namespace Go.Proofs.YtldbkompebefmaaDoor
open Go.RowKit

/-- a block that a call has made itself, written over in whole -/
theorem below_setCells {B b : Nat} {W : World} (hb : B ≤ b) : ∀ (vs : List Value) (o : Nat) (w : World), Below B W w → Below B W (w.setCells b o vs)
  | [], _, _, h => h
  | v :: r, o, w, h => by
    rw [World.setCells]
    exact below_setCells hb r (o + 1) _ (h.setCell (p := ⟨b, o, none⟩) hb v)

namespace Lan11
end Lan11
end Go.Proofs.YtldbkompebefmaaDoor
