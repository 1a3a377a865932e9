/- What the rows' list (three tables of the library, then geom's) gives the walks: geom's table of pairs as it is laid; and a world in which it reads so. -/
import Derived.Test.YtaooigldchojcaaDoorCards
import Derived.Test.YtaooigldchojcaaDoorTie
import Derived.Test.YtaooigldchojcaaDoorPairs
import Derived.Test.YtaooigldchojcaaDoorTab2
import Derived.WalkKit
import Derived.ProofKit
import Derived.OpenShut
import Derived.Deep.DeepHandedRow
import Derived.Lib.SmallJoins
import Derived.Stop.LaidErr
namespace Go.Proofs.YtaooigldchojcaaDoor
open Go.Joins Go.ChangeShapes Go.WideShapes Go.ChangeAt Go.RowKit

theorem own : ownKnob Tryd.prog.godebug = none := by kernel_rfl
theorem gPairs : Tryd.prog.globalNamed "teetotum/geom.pairs" = some 0 := by kernel_rfl
theorem gPairsType : (Tryd.prog.globals[0]?).map (·.type) = some 40 := by kernel_rfl
theorem cells_pairs : Tryd.prog.cellsOf 40 = 15 * 2 := by kernel_rfl
theorem cells_pair : Tryd.prog.cellsOf 27 = 2 := by kernel_rfl
theorem cells_int : Tryd.prog.cellsOf 3 = 1 := by kernel_rfl

/-- the list of all rows -/
def list1 : List (String × DataW Unit) := Rows.hypoMoreRow.laid
/-- the pairs, one by one -/
def pairRows : List (List Int) := (List.range 15).map fun i => [pairNums.getD (2 * i) 0, pairNums.getD (2 * i + 1) 0]
theorem laid_rows : (Rows.laid_teetotum_geom_pairs : DataW Unit) = .agg (pairRows.map (Lib.tabData .i64)) := rfl

set_option maxRecDepth 100000 in
theorem pairs_of {W : World} (hL : laidMet Tryd.prog list1 W) : PairsAt W := by
  have h : laidMet Tryd.prog (list1.drop 3) W := hL.tail.tail.tail
  obtain ⟨ps, ⟨g0, t0, cs0, f0, p0, q0, hg0, ht0, hv0, hd0, _, _⟩, _, _⟩ := h
  obtain rfl := Option.some.inj (gPairs.symm.trans hg0)
  obtain rfl := Option.some.inj (gPairsType.symm.trans ht0)
  rw [laid_rows] at hd0
  obtain ⟨_, hc⟩ := cells_of_rows Tryd.underlying40 Tryd.underlying27 Tryd.underlying3 cells_int cells_pair cells_pairs hd0 (by decide)
  intro j v hv
  have hj : j < 30 := by
    have := (List.getElem?_eq_some_iff.1 hv).1
    simpa [pairCells_list, pairNums] using this
  have hq : ∀ j : Fin 30, (pairRows[j.val / 2]?.bind (·[j.val % 2]?)) = some (pairNums.getD j.val 0) := by decide +kernel
  have h1 := hc (j / 2) (j % 2) _ (hq ⟨j, hj⟩)
  rw [show j / 2 * 2 + j % 2 = j by omega] at h1
  have h2 := World.var?_cell gPairs hv0 j
  rw [Nat.zero_add]
  rw [pairCells_list, List.getElem?_map] at hv
  have h3 : pairNums[j]? = some (pairNums.getD j 0) := by
    have : j < pairNums.length := hj
    rw [List.getD_eq_getElem?_getD, List.getElem?_eq_getElem this]; rfl
  rw [h3] at hv
  injection hv with hv
  rw [← hv, h2]
  simpa using h1

def put (v : Array Value) : Obj → Obj
  | .cells _ t frozen => .cells v t frozen
  | o => o
/-- the settled world; the variable holds what the list says -/
noncomputable def laidWorld (os : Os) : World :=
  let w0 := World.holding Tryd.prog os ⟨#[], #[], []⟩
  { w0 with heap := (((w0.heap.modify 0 (put pairCells)).modify 3 (put #[.int .u8 0, .int .u8 1, .int .u8 28, .int .u8 2, .int .u8 29, .int .u8 14, .int .u8 24, .int .u8 3, .int .u8 30, .int .u8 22, .int .u8 20, .int .u8 15, .int .u8 25, .int .u8 17, .int .u8 4, .int .u8 8, .int .u8 31, .int .u8 27, .int .u8 13, .int .u8 23, .int .u8 21, .int .u8 19, .int .u8 16, .int .u8 7, .int .u8 26, .int .u8 12, .int .u8 18, .int .u8 6, .int .u8 11, .int .u8 5, .int .u8 10, .int .u8 9])).modify 4 (put #[.int .u8 0, .int .u8 1, .int .u8 56, .int .u8 2, .int .u8 57, .int .u8 49, .int .u8 28, .int .u8 3, .int .u8 61, .int .u8 58, .int .u8 42, .int .u8 50, .int .u8 38, .int .u8 29, .int .u8 17, .int .u8 4, .int .u8 62, .int .u8 47, .int .u8 59, .int .u8 36, .int .u8 45, .int .u8 43, .int .u8 51, .int .u8 22, .int .u8 53, .int .u8 39, .int .u8 33, .int .u8 30, .int .u8 24, .int .u8 18, .int .u8 12, .int .u8 5, .int .u8 63, .int .u8 55, .int .u8 48, .int .u8 27, .int .u8 60, .int .u8 41, .int .u8 37, .int .u8 16, .int .u8 46, .int .u8 35, .int .u8 44, .int .u8 21, .int .u8 52, .int .u8 32, .int .u8 23, .int .u8 11, .int .u8 54, .int .u8 26, .int .u8 40, .int .u8 15, .int .u8 34, .int .u8 20, .int .u8 31, .int .u8 10, .int .u8 25, .int .u8 14, .int .u8 19, .int .u8 9, .int .u8 13, .int .u8 8, .int .u8 7, .int .u8 6])).modify 2 (put #[.int .u64 1, .int .u64 10, .int .u64 100, .int .u64 1000, .int .u64 10000, .int .u64 100000, .int .u64 1000000, .int .u64 10000000, .int .u64 100000000, .int .u64 1000000000, .int .u64 10000000000, .int .u64 100000000000, .int .u64 1000000000000, .int .u64 10000000000000, .int .u64 100000000000000, .int .u64 1000000000000000, .int .u64 10000000000000000, .int .u64 100000000000000000, .int .u64 1000000000000000000, .int .u64 10000000000000000000]) }

end Go.Proofs.YtaooigldchojcaaDoor
