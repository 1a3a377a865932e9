/- What the rows' list gives the walks: the landed ladder's table of names, as it is laid; and a world in which it reads so. -/
import Derived.Test.YtmenicgoabmcmaaDoorCards
import Derived.Test.YtmenicgoabmcmaaDoorTie
import Derived.Test.YtmenicgoabmcmaaDoorLdW
import Derived.WalkKit
import Derived.ProofKit
import Derived.OpenShut
import Derived.WideShapes
import Derived.Deep.DeepHandedRow
import Derived.Lib.SmallJoins
import Derived.Stop.LaidErr
namespace Go.Proofs.YtmenicgoabmcmaaDoor
open Go.Joins Go.ChangeShapes Go.WideShapes Go.ChangeAt Go.RowKit Ld

theorem own : ownKnob Tryd.prog.godebug = none := by kernel_rfl
theorem gNames : Tryd.prog.globalNamed "teetotum/ladder.names" = some 0 := by kernel_rfl
theorem gNamesType : (Tryd.prog.globals[0]?).map (·.type) = some 38 := by kernel_rfl
theorem cells_str : Tryd.prog.cellsOf 9 = 1 := by kernel_rfl

/-- the list of all rows -/
def list1 : List (String × DataW Unit) := Rows.ladderSaysRow.laid
theorem laid_names : (Rows.laid_teetotum_ladder_names : DataW Unit) = .agg (names.map fun b => .lit (.string b)) := rfl
theorem one_at {cs : List Value} {i : Nat} {v : Value} (h : (cs.drop (i * 1)).take 1 = [v]) : cs[i]? = some v := by
  have e := congrArg (fun l : List Value => l[0]?) h
  rw [Nat.mul_one] at e
  simpa [List.getElem?_take, List.getElem?_drop] using e

set_option maxRecDepth 100000 in
theorem names_of {W : World} (hL : laidMet Tryd.prog list1 W) : NamesAt W := by
  obtain ⟨ps, ⟨g0, t0, cs0, f0, p0, q0, hg0, ht0, hv0, hd0, _, _⟩, _, _⟩ := hL
  obtain rfl := Option.some.inj (gNames.symm.trans hg0)
  obtain rfl := Option.some.inj (gNamesType.symm.trans ht0)
  rw [laid_names] at hd0
  obtain ⟨xs, m, _, hx, hlen, hl, hel⟩ := DataW.trod_array Tryd.underlying38 hd0
  simp only [Prod.mk.injEq, DataW.agg.injEq] at hx
  obtain ⟨hx, _⟩ := hx
  have hl6 : xs.length = 6 := hl
  intro i hi
  have g := hel i hi
  rw [cells_str, List.getElem?_eq_getElem (by omega)] at g
  obtain ⟨s, e, ex, _⟩ := DataW.trod_string Tryd.underlying9 g
  have e1 : cs0.toList[i]? = some (.string s) := one_at e
  have h2 : (xs.map (·.1))[i]? = some (.lit (.string s.data.toList)) := by rw [List.getElem?_map, List.getElem?_eq_getElem (by omega), Option.map_some, ex]
  rw [← hx, List.getElem?_map] at h2
  have h3 : names[i]? = some s.data.toList := by
    cases hn : names[i]? with
    | none => rw [hn] at h2; cases h2
    | some b =>
      rw [hn] at h2
      simp only [Option.map_some, Option.some.injEq, DataW.lit.injEq, Lit.string.injEq] at h2
      rw [h2]
  have h4 : s = nmN i := bytes_inj (by unfold nmN; rw [List.getD_eq_getElem?_getD, h3]; rfl)
  rw [World.var?_cell gNames hv0 i, ← h4]
  simpa using e1

def put (v : Array Value) : Obj → Obj
  | .cells _ t frozen => .cells v t frozen
  | o => o
/-- the settled world; the variable holds what the list says -/
noncomputable def laidWorld (os : Os) : World :=
  let w0 := World.holding Tryd.prog os ⟨#[], #[], []⟩
  { w0 with heap := w0.heap.modify 0 (put #[.string ⟨#[70, 85, 76, 76]⟩, .string ⟨#[70, 65, 73, 76, 45, 79, 80]⟩, .string ⟨#[70, 65, 73, 76, 45, 83, 65, 70, 69]⟩, .string ⟨#[65, 77, 66, 73, 71, 85, 79, 85, 83]⟩, .string ⟨#[82, 65, 84, 69, 45, 79, 78, 76, 89]⟩, .string ⟨#[78, 65, 86, 45, 76, 79, 83, 84]⟩]) }

end Go.Proofs.YtmenicgoabmcmaaDoor
