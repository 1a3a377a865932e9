/- Two numbers as an argument by value: opened (as in XOctOpen2, for a seat without [2]string). -/
import Derived.Test.YtldbkompebefmaaDoorProg
import Derived.OpenShut
import Derived.Lib.SmallJoins
namespace Go.Proofs.YtldbkompebefmaaDoor
open Go.Joins Go.ChangeShapes Go.WideShapes Go.RowKit

section
variable {H : Type} {enc : TypeId × Value → H} {w : World} {base : Nat} {spare : Nat → Bool} {held : Bool}

theorem two_cells : Tryd.prog.cellsOf 64 = 2 := by kernel_rfl
theorem one_cell2 : Tryd.prog.cellsOf 3 = 1 := by kernel_rfl

set_option maxRecDepth 100000 in
theorem two_open {r : Reach} {b0 : Nat} {v : Value} {d : DataW H} {p : List MemPlace} (hv : Value.okWide Tryd.prog w r b0 64 v) (h : DataW.Trod enc Tryd.prog w base spare held 64 v d p) :
    ∃ x y : Int, v = .agg #[.int .i64 x, .int .i64 y] ∧ (Lit.int .i64 x).wf = true ∧ (Lit.int .i64 y).wf = true := by
  simp only [Value.okWide, Tryd.underlying64] at hv
  obtain ⟨cs, rfl, h2, _⟩ := hv
  have hsz : cs.size = 2 := h2.trans two_cells
  obtain ⟨fuel, hf⟩ := h
  obtain ⟨xs, m, _, hx, _, hl, hel⟩ := DataW.trod_array Tryd.underlying64 hf
  obtain ⟨l⟩ := cs
  match l, hsz, xs, hl with
  | [c0, c1], _, [y0, y1], _ =>
    have g0 := hel 0 (by omega)
    have g1 := hel 1 (by omega)
    rw [one_cell2] at g0 g1
    obtain ⟨x, e0, rfl, wx⟩ := DataW.trod_int Tryd.underlying3 g0
    obtain ⟨y, e1, rfl, wy⟩ := DataW.trod_int Tryd.underlying3 g1
    simp [Value.cells] at e0 e1
    subst e0 e1
    exact ⟨x, y, rfl, wx, wy⟩
end

end Go.Proofs.YtldbkompebefmaaDoor
