
/- What the rows' list (geom's table of pairs alone) gives the walks: geom's table of pairs as it is laid; and a world in which it reads so. -/
import Derived.Test.YtldbkompebefmaaDoorCards
import Derived.Test.YtldbkompebefmaaDoorTie
import Derived.Test.YtldbkompebefmaaDoorPairs
import Derived.Test.YtldbkompebefmaaDoorTab2
import Derived.WalkKit
import Derived.ProofKit
import Derived.OpenShut
import Derived.Deep.DeepHandedRow
import Derived.Lib.SmallJoins
import Derived.Stop.LaidErr
namespace Go.Proofs.YtldbkompebefmaaDoor
open Go.Joins Go.ChangeShapes Go.WideShapes Go.ChangeAt Go.RowKit

theorem own : ownKnob Tryd.prog.godebug = none := by kernel_rfl
theorem gPairs : Tryd.prog.globalNamed "teetotum/geom.pairs" = some 0 := by kernel_rfl
theorem gPairsType : (Tryd.prog.globals[0]?).map (·.type) = some 65 := by kernel_rfl
theorem cells_pairs : Tryd.prog.cellsOf 65 = 15 * 2 := by kernel_rfl
theorem cells_pair : Tryd.prog.cellsOf 64 = 2 := by kernel_rfl
theorem cells_int : Tryd.prog.cellsOf 3 = 1 := by kernel_rfl

/-- the list of all rows -/
def list1 : List (String × DataW Unit) := Rows.latchSaysRow.laid
/-- the pairs, one by one -/
def pairRows : List (List Int) := (List.range 15).map fun i => [pairNums.getD (2 * i) 0, pairNums.getD (2 * i + 1) 0]
theorem laid_rows : (Rows.laid_teetotum_geom_pairs : DataW Unit) = .agg (pairRows.map (Lib.tabData .i64)) := rfl

set_option maxRecDepth 100000 in
theorem pairs_of {W : World} (hL : laidMet Tryd.prog list1 W) : PairsAt W := by
  have h : laidMet Tryd.prog list1 W := hL
  obtain ⟨ps, ⟨g0, t0, cs0, f0, p0, q0, hg0, ht0, hv0, hd0, _, _⟩, _, _⟩ := h
  obtain rfl := Option.some.inj (gPairs.symm.trans hg0)
  obtain rfl := Option.some.inj (gPairsType.symm.trans ht0)
  rw [laid_rows] at hd0
  obtain ⟨_, hc⟩ := cells_of_rows Tryd.underlying65 Tryd.underlying64 Tryd.underlying3 cells_int cells_pair cells_pairs hd0 (by decide)
  intro j v hv
  have hj : j < 30 := by
    have := (List.getElem?_eq_some_iff.1 hv).1
    simpa [pairCells_list, pairNums] using this
  have hq : ∀ j : Fin 30, (pairRows[j.val / 2]?.bind (·[j.val % 2]?)) = some (pairNums.getD j.val 0) := by decide +kernel
  have h1 := hc (j / 2) (j % 2) _ (hq ⟨j, hj⟩)
  rw [show j / 2 * 2 + j % 2 = j by omega] at h1
  have h2 := World.var?_cell gPairs hv0 j
  rw [Nat.zero_add]
  rw [pairCells_list, List.getElem?_map] at hv
  have h3 : pairNums[j]? = some (pairNums.getD j 0) := by
    have : j < pairNums.length := hj
    rw [List.getD_eq_getElem?_getD, List.getElem?_eq_getElem this]; rfl
  rw [h3] at hv
  injection hv with hv
  rw [← hv, h2]
  simpa using h1

def put (v : Array Value) : Obj → Obj
  | .cells _ t frozen => .cells v t frozen
  | o => o
/-- the settled world; the variable holds what the list says -/
noncomputable def laidWorld (os : Os) : World :=
  let w0 := World.holding Tryd.prog os ⟨#[], #[], []⟩
  { w0 with heap := w0.heap.modify 0 (put pairCells) }

end Go.Proofs.YtldbkompebefmaaDoor
