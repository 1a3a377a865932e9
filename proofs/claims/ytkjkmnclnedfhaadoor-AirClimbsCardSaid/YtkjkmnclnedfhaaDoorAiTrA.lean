
/- The landed triple's blamed, Alive, Bad, Status, Hull, Blame. -/
import Derived.Test.YtkjkmnclnedfhaaDoorTrQ
import Derived.Test.YtkjkmnclnedfhaaDoorObSpanA
namespace Go.Proofs.YtkjkmnclnedfhaaDoor
open Go.RowKit Obs

theorem blamed_any (j r : Int) (h : IntKind.i64.wrap (j - 1) = r) (w : World) :
    Calls Tryd.prog 24 #[.int .i64 j] w fun e w' => e = .returned (.int .i64 r) ∧ Below w.heap.size w w' := by
  go_enter Tryd.func24, Tryd.ntmps24
  go_wp2_with fail
  go_ret
  exact ⟨rfl, Below.refl _ _⟩

namespace Obs
end Obs
namespace Obs
end Obs
end Go.Proofs.YtkjkmnclnedfhaaDoor
