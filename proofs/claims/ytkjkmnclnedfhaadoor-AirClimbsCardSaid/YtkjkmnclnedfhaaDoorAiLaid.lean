/- What the row's list gives the walks: the empty span and geom's six axes, as they are laid; and a world in which they read so. -/
import Derived.Test.YtkjkmnclnedfhaaDoorCards
import Derived.Test.YtkjkmnclnedfhaaDoorTie
import Derived.Test.YtkjkmnclnedfhaaDoorAiCfg
import Derived.Test.YtkjkmnclnedfhaaDoorTab2
import Derived.WalkKit
import Derived.ProofKit
import Derived.OpenShut
import Derived.Deep.DeepHandedRow
import Derived.Lib.SmallJoins
import Derived.Stop.LaidErr
namespace Go.Proofs.YtkjkmnclnedfhaaDoor
open Go.Joins Go.ChangeShapes Go.WideShapes Go.ChangeAt Go.RowKit

theorem own : ownKnob Tryd.prog.godebug = none := by kernel_rfl
theorem gNone : Tryd.prog.globalNamed "teetotum/span.none" = some 0 := by kernel_rfl
theorem gNoneType : (Tryd.prog.globals[0]?).map (·.type) = some 32 := by kernel_rfl
theorem gCone : Tryd.prog.globalNamed "teetotum/geom.cone" = some 1 := by kernel_rfl
theorem gConeType : (Tryd.prog.globals[1]?).map (·.type) = some 59 := by kernel_rfl
theorem span_cells : Tryd.prog.cellsOf 32 = 2 := by kernel_rfl
theorem cells_cone : Tryd.prog.cellsOf 59 = 6 * 3 := by kernel_rfl
theorem cells_vec : Tryd.prog.cellsOf 58 = 3 := by kernel_rfl
theorem cells_i64 : Tryd.prog.cellsOf 2 = 1 := by kernel_rfl

/-- the list of all rows -/
def list1 : List (String × DataW Unit) := Rows.airClimbsRow.laid
/-- the axes, one by one -/
def coneRows : List (List Int) := (List.range 6).map fun i => [coneNums.getD (3 * i) 0, coneNums.getD (3 * i + 1) 0, coneNums.getD (3 * i + 2) 0]
theorem laid_rows : (Rows.laid_teetotum_geom_cone : DataW Unit) = .agg (coneRows.map (Lib.tabData .i64)) := rfl

set_option maxRecDepth 100000 in
theorem none_of {W : World} (h : laidMet Tryd.prog list1 W) : NoneAt W := by
  obtain ⟨ps, ⟨g0, t0, cs0, f0, p0, q0, hg0, ht0, hv0, hd0, _, _⟩, _, _⟩ := h
  obtain rfl := Option.some.inj (gNone.symm.trans hg0)
  obtain rfl := Option.some.inj (gNoneType.symm.trans ht0)
  obtain ⟨l⟩ := cs0
  obtain ⟨y0, y1, n, hx, hl, h0, h1⟩ := trod_struct2 Tryd.underlying32 hd0
  rw [span_cells] at hl
  simp only [Prod.mk.injEq] at hx
  have hx := hx.1
  match l, hl with
  | [c0, c1], _ =>
    simp only [cells_i64] at h0 h1
    obtain ⟨x, e0, rfl, _⟩ := DataW.trod_int Tryd.underlying2 h0
    obtain ⟨y, e1, rfl, _⟩ := DataW.trod_int Tryd.underlying2 h1
    simp at e0 e1
    subst e0 e1
    simp only [Rows.laid_teetotum_span_none, DataW.agg.injEq, List.cons.injEq, DataW.lit.injEq, Lit.int.injEq, true_and, and_true] at hx
    obtain ⟨rfl, rfl⟩ := hx
    exact ⟨by simpa using World.var?_cell gNone hv0 0, by simpa using World.var?_cell gNone hv0 1⟩

set_option maxRecDepth 100000 in
theorem cone_of {W : World} (hL : laidMet Tryd.prog list1 W) : ConeAt W := by
  have h : laidMet Tryd.prog (list1.drop 1) W := hL.tail
  obtain ⟨ps, ⟨g0, t0, cs0, f0, p0, q0, hg0, ht0, hv0, hd0, _, _⟩, _, _⟩ := h
  obtain rfl := Option.some.inj (gCone.symm.trans hg0)
  obtain rfl := Option.some.inj (gConeType.symm.trans ht0)
  rw [laid_rows] at hd0
  obtain ⟨_, hc⟩ := cells_of_rows Tryd.underlying59 Tryd.underlying58 Tryd.underlying2 cells_i64 cells_vec cells_cone hd0 (by decide)
  intro j v hv
  have e : coneCells.toList = coneNums.map fun z => Value.int .i64 z := rfl
  have hj : j < 18 := by
    have := (List.getElem?_eq_some_iff.1 hv).1
    simpa [e, coneNums] using this
  have hq : ∀ j : Fin 18, (coneRows[j.val / 3]?.bind (·[j.val % 3]?)) = some (coneNums.getD j.val 0) := by decide +kernel
  have h1 := hc (j / 3) (j % 3) _ (hq ⟨j, hj⟩)
  rw [show j / 3 * 3 + j % 3 = j by omega] at h1
  have h2 := World.var?_cell gCone hv0 j
  rw [Nat.zero_add]
  rw [e, List.getElem?_map] at hv
  have h3 : coneNums[j]? = some (coneNums.getD j 0) := by
    have : j < coneNums.length := hj
    rw [List.getD_eq_getElem?_getD, List.getElem?_eq_getElem this]; rfl
  rw [h3] at hv
  injection hv with hv
  rw [← hv, h2]
  simpa using h1

def put (v : Array Value) : Obj → Obj
  | .cells _ t frozen => .cells v t frozen
  | o => o
/-- the settled world; the variables hold what the list says -/
noncomputable def laidWorld (os : Os) : World :=
  let w0 := World.holding Tryd.prog os ⟨#[], #[], []⟩
  { w0 with heap := (w0.heap.modify 0 (put #[.int .i64 1, .int .i64 0])).modify 1 (put coneCells) }

end Go.Proofs.YtkjkmnclnedfhaaDoor
