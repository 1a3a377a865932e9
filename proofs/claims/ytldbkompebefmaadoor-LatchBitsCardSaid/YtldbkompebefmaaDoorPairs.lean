/- geom's table of pairs, as it is laid; geom.Pairs. -/
import Derived.Test.YtldbkompebefmaaDoorWhole
namespace Go.Proofs.YtldbkompebefmaaDoor
open Go.RowKit

/-- the table's numbers -/
def pairNums : List Int := [0, 1, 0, 2, 0, 3, 0, 4, 0, 5, 1, 2, 1, 3, 1, 4, 1, 5, 2, 3, 2, 4, 2, 5, 3, 4, 3, 5, 4, 5]
def pairCells : Array Value := (pairNums.map fun z => Value.int .i64 z).toArray
/-- the package's own table, as it is laid -/
def PairsAt (w : World) : Prop := w.rangeAt 0 0 pairCells.toList
theorem PairsAt.keep {w w' : World} (h : PairsAt w) (b : Below w.heap.size w w') : PairsAt w' := range_keep h b

theorem info_pairs : (Tryd.prog.info? 65).map (·.size) = some 30 := by kernel_rfl
theorem pairCells_size : pairCells.size = 30 := by decide
theorem pairCells_one : pairCells.all (·.oneCell') = true := by
  unfold pairCells
  exact all_oneCell_toArray fun v hv => by
    obtain ⟨z, _, rfl⟩ := List.mem_map.1 hv
    rfl
theorem pairCells_list : pairCells.toList = pairNums.map fun z => Value.int .i64 z := rfl

namespace Own9
set_option maxHeartbeats 8000000 in
set_option maxRecDepth 100000 in
theorem Pairs_any (w : World) (n : PairsAt w) :
    Calls Tryd.prog 50 #[] w fun e w' => e = .returned (.agg pairCells) ∧ Below w.heap.size w w' := by
  have hL := n.keep (below1 w (.cells #[.int .i64 0, .int .i64 0, .int .i64 0, .int .i64 0, .int .i64 0, .int .i64 0, .int .i64 0, .int .i64 0, .int .i64 0, .int .i64 0, .int .i64 0, .int .i64 0, .int .i64 0, .int .i64 0, .int .i64 0, .int .i64 0, .int .i64 0, .int .i64 0, .int .i64 0, .int .i64 0, .int .i64 0, .int .i64 0, .int .i64 0, .int .i64 0, .int .i64 0, .int .i64 0, .int .i64 0, .int .i64 0, .int .i64 0, .int .i64 0] 65))
  have B1 := below1 w (.cells pairCells 65)
  have hR := range_new w pairCells 65
  have h1 := pairCells_one
  have hz := pairCells_size
  have hs := info_pairs
  unfold PairsAt at hL
  rw [← hz] at hs
  generalize pairCells = arr at *
  go_enter Tryd.func50, Tryd.ntmps50
  go_upto_region 1 with fail
  refine wp_region_lit ?_
  refine list_load_row rfl 65 _ rfl 0 rfl arr _ hL Tryd.underlying65 rfl hs ?_
  refine list_store_new rfl 65 _ _ rfl _ arr rfl rfl hs (by rw [hz]; rfl) h1 ?_
  clear hL
  go_wp2
  exact bodyPost_ret (results_row rfl rfl hR Tryd.underlying65 rfl hs) rfl ⟨rfl, B1⟩
end Own9
end Go.Proofs.YtldbkompebefmaaDoor
