/- What the rows' lists give the walks: the empty span as it is laid; and a world in which it reads so. -/
import Derived.Test.YtdembidbaojldaaDoorCards
import Derived.Test.YtdembidbaojldaaDoorTie
import Derived.Test.YtdembidbaojldaaDoorSpanA
import Derived.WalkKit
import Derived.ProofKit
import Derived.OpenShut
import Derived.Deep.DeepHandedRow
import Derived.Lib.SmallJoins
import Derived.Stop.LaidErr
namespace Go.Proofs.YtdembidbaojldaaDoor
open Go.Joins Go.ChangeShapes Go.WideShapes Go.ChangeAt Go.RowKit

theorem own : ownKnob Tryd.prog.godebug = none := by kernel_rfl
theorem gNone : Tryd.prog.globalNamed "teetotum/span.none" = some 0 := by kernel_rfl
theorem gNoneType : (Tryd.prog.globals[0]?).map (·.type) = some 23 := by kernel_rfl
theorem span_cells : Tryd.prog.cellsOf 23 = 2 := by kernel_rfl
theorem int_cells : Tryd.prog.cellsOf 2 = 1 := by kernel_rfl

/-- the list of all rows -/
def list1 : List (String × DataW Unit) := Rows.spanMeetsRow.laid

set_option maxRecDepth 100000 in
theorem none_of {W : World} (h : laidMet Tryd.prog list1 W) : NoneAt W := by
  obtain ⟨ps, ⟨g0, t0, cs0, f0, p0, q0, hg0, ht0, hv0, hd0, _, _⟩, _, _⟩ := h
  obtain rfl := Option.some.inj (gNone.symm.trans hg0)
  obtain rfl := Option.some.inj (gNoneType.symm.trans ht0)
  obtain ⟨l⟩ := cs0
  obtain ⟨y0, y1, n, hx, hl, h0, h1⟩ := trod_struct2 Tryd.underlying23 hd0
  rw [span_cells] at hl
  simp only [Prod.mk.injEq] at hx
  have hx := hx.1
  match l, hl with
  | [c0, c1], _ =>
    simp only [int_cells] at h0 h1
    obtain ⟨x, e0, rfl, _⟩ := DataW.trod_int Tryd.underlying2 h0
    obtain ⟨y, e1, rfl, _⟩ := DataW.trod_int Tryd.underlying2 h1
    simp at e0 e1
    subst e0 e1
    simp only [Rows.laid_teetotum_span_none, DataW.agg.injEq, List.cons.injEq, DataW.lit.injEq, Lit.int.injEq, true_and, and_true] at hx
    obtain ⟨rfl, rfl⟩ := hx
    exact ⟨by simpa using World.var?_cell gNone hv0 0, by simpa using World.var?_cell gNone hv0 1⟩

def put (v : Array Value) : Obj → Obj
  | .cells _ t frozen => .cells v t frozen
  | o => o
/-- the settled world; the variable holds what the list says -/
noncomputable def laidWorld (os : Os) : World :=
  let w0 := World.holding Tryd.prog os ⟨#[], #[], []⟩
  { w0 with heap := w0.heap.modify 0 (put #[.int .i64 1, .int .i64 0]) }

section
variable {H : Type} {enc : TypeId × Value → H} {w : World} {base : Nat} {spare : Nat → Bool} {held : Bool}

set_option maxRecDepth 100000 in
theorem span_open {r : Reach} {b0 : Nat} {v : Value} {d : DataW H} {p : List MemPlace} (hv : Value.okWide Tryd.prog w r b0 23 v) (h : DataW.Trod enc Tryd.prog w base spare held 23 v d p) :
    ∃ x y : Int, v = .agg #[.int .i64 x, .int .i64 y] ∧ d = .agg [.lit (.int .i64 x), .lit (.int .i64 y)] ∧ p = [] ∧ (Lit.int .i64 x).wf = true ∧ (Lit.int .i64 y).wf = true := by
  obtain ⟨c0, c1, y0, y1, m, rfl, rfl, rfl, h0, h1⟩ := open_agg2 Tryd.underlying23 (by kernel_rfl) span_cells hv h
  obtain ⟨x, e0, rfl, wx⟩ := DataW.trod_int Tryd.underlying2 h0
  obtain ⟨y, e1, rfl, wy⟩ := DataW.trod_int Tryd.underlying2 h1
  simp at e0 e1
  subst e0 e1
  exact ⟨x, y, rfl, rfl, rfl, wx, wy⟩

set_option maxRecDepth 100000 in
theorem span_shut {x y : Int} (wx : (Lit.int .i64 x).wf = true) (wy : (Lit.int .i64 y).wf = true) :
    DataW.Trod enc Tryd.prog w base spare held 23 (.agg #[.int .i64 x, .int .i64 y]) (.agg [.lit (.int .i64 x), .lit (.int .i64 y)]) [] :=
  shut_agg2 (y0 := (.lit (.int .i64 x), [])) (y1 := (.lit (.int .i64 y), [])) Tryd.underlying23 (by kernel_rfl) span_cells ⟨1, by simp [DataW.trod, Tryd.underlying2, wx]⟩ ⟨1, by simp [DataW.trod, Tryd.underlying2, wy]⟩
end

end Go.Proofs.YtdembidbaojldaaDoor
