/- In the midst of a drawn region: the condition is laid anew at the world at hand. -/
import Derived.Test.YtmacbcbomdnppaaMem
namespace Go.Proofs.Ytmacbcbomdnppaa
open Go.RowKit

theorem wpAnyH_rebase {P : Program} {ops : Array Oper} {Q : Exit → Act → World → Prop} {md : Region.Mode} {S S' : World → Prop} (h : ∀ w, S' w → S w) :
    ∀ (fuel : Nat) (listed : Array Bool) (a : Act) (w : World), wpAnyH P md ops Q S' fuel listed a w → wpAnyH P md ops Q S fuel listed a w
  | 0, _, _, _, H => H
  | fuel + 1, _, _, _, H => ⟨H.1, fun i hi => wpOp_mono (fun a w k => ⟨h w k.1, wpAnyH_rebase h fuel _ a w k.2⟩) (H.2 i hi)⟩

end Go.Proofs.Ytmacbcbomdnppaa
