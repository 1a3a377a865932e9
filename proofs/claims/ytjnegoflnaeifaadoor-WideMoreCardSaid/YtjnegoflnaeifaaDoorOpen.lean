/- A wide number and three numbers as arguments by value: opened to their numbers, and shut again. -/
import Derived.Test.YtjnegoflnaeifaaDoorProg
import Derived.OpenShut
import Derived.Lib.SmallJoins
namespace Go.Proofs.YtjnegoflnaeifaaDoor
open Go.Joins Go.ChangeShapes Go.WideShapes Go.RowKit

section
variable {H : Type} {enc : TypeId × Value → H} {w : World} {base : Nat} {spare : Nat → Bool} {held : Bool}

theorem wide_cells : Tryd.prog.cellsOf 24 = 2 := by kernel_rfl

set_option maxRecDepth 100000 in
theorem wide_open {r : Reach} {b0 : Nat} {v : Value} {d : DataW H} {p : List MemPlace} (hv : Value.okWide Tryd.prog w r b0 24 v) (h : DataW.Trod enc Tryd.prog w base spare held 24 v d p) :
    ∃ x y : Int, v = .agg #[.int .i64 x, .int .u64 y] ∧ d = .agg [.lit (.int .i64 x), .lit (.int .u64 y)] ∧ p = [] ∧ (Lit.int .i64 x).wf = true ∧ (Lit.int .u64 y).wf = true := by
  obtain ⟨c0, c1, y0, y1, m, rfl, rfl, rfl, h0, h1⟩ := open_agg2 Tryd.underlying24 (by kernel_rfl) wide_cells hv h
  obtain ⟨x, e0, rfl, wx⟩ := DataW.trod_int Tryd.underlying2 h0
  obtain ⟨y, e1, rfl, wy⟩ := DataW.trod_int Tryd.underlying22 h1
  simp at e0 e1
  subst e0 e1
  exact ⟨x, y, rfl, rfl, rfl, wx, wy⟩

set_option maxRecDepth 100000 in
theorem wide_shut {x y : Int} (wx : (Lit.int .i64 x).wf = true) (wy : (Lit.int .u64 y).wf = true) :
    DataW.Trod enc Tryd.prog w base spare held 24 (.agg #[.int .i64 x, .int .u64 y]) (.agg [.lit (.int .i64 x), .lit (.int .u64 y)]) [] :=
  shut_agg2 (y0 := (.lit (.int .i64 x), [])) (y1 := (.lit (.int .u64 y), [])) Tryd.underlying24 (by kernel_rfl) wide_cells ⟨1, by simp [DataW.trod, Tryd.underlying2, wx]⟩ ⟨1, by simp [DataW.trod, Tryd.underlying22, wy]⟩
end

end Go.Proofs.YtjnegoflnaeifaaDoor
