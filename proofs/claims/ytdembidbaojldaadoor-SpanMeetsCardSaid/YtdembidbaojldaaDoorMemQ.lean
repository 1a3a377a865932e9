/- Blocks of two cells, further. -/
import Derived.Test.YtdembidbaojldaaDoorMem
namespace Go.Proofs.YtdembidbaojldaaDoor
open Go.RowKit

theorem own2q (w : World) (c : Nat) (o p : Nat) (y z u v : Value) (t : TypeId) : Own2 (((w.setCell ⟨c, o, none⟩ y).setCell ⟨c, p, none⟩ z).alloc (.cells #[u, v] t)) w.heap.size u v := by
  have h := own2 ((w.setCell ⟨c, o, none⟩ y).setCell ⟨c, p, none⟩ z) u v t
  simpa using h

end Go.Proofs.YtdembidbaojldaaDoor
