/- Three numbers as an argument by value: opened, and shut again. -/
import Derived.Test.YtkjkmnclnedfhaaDoorProg
import Derived.OpenShut
import Derived.Lib.SmallJoins
namespace Go.Proofs.YtkjkmnclnedfhaaDoor
open Go.Joins Go.ChangeShapes Go.WideShapes Go.RowKit

section
variable {H : Type} {enc : TypeId × Value → H} {w : World} {base : Nat} {spare : Nat → Bool} {held : Bool}

theorem three_cells : Tryd.prog.cellsOf 22 = 3 := by kernel_rfl
theorem one_cell : Tryd.prog.cellsOf 2 = 1 := by kernel_rfl

theorem okWide_arr3 {r : Reach} {b0 : Nat} {v : Value} (hv : Value.okWide Tryd.prog w r b0 22 v) : ∃ cs : Array Value, v = .agg cs ∧ cs.size = 3 := by
  simp only [Value.okWide, Tryd.underlying22] at hv
  obtain ⟨cs, h1, h2, _⟩ := hv
  exact ⟨cs, h1, h2.trans three_cells⟩

theorem three_open {r : Reach} {b0 : Nat} {v : Value} {d : DataW H} {p : List MemPlace} (hv : Value.okWide Tryd.prog w r b0 22 v) (h : DataW.Trod enc Tryd.prog w base spare held 22 v d p) :
    ∃ x y z : Int, v = .agg #[.int .i64 x, .int .i64 y, .int .i64 z] ∧ d = .agg [.lit (.int .i64 x), .lit (.int .i64 y), .lit (.int .i64 z)] ∧ p = [] ∧ (Lit.int .i64 x).wf = true ∧ (Lit.int .i64 y).wf = true ∧ (Lit.int .i64 z).wf = true := by
  obtain ⟨cs, rfl, hsz⟩ := okWide_arr3 hv
  obtain ⟨fuel, hf⟩ := h
  obtain ⟨xs, m, _, hx, _, hl, hel⟩ := DataW.trod_array Tryd.underlying22 hf
  obtain ⟨l⟩ := cs
  match l, hsz, xs, hl with
  | [c0, c1, c2], _, [y0, y1, y2], _ =>
    have g0 := hel 0 (by omega)
    have g1 := hel 1 (by omega)
    have g2 := hel 2 (by omega)
    rw [one_cell] at g0 g1 g2
    obtain ⟨x, e0, rfl, wx⟩ := DataW.trod_int Tryd.underlying2 g0
    obtain ⟨y, e1, rfl, wy⟩ := DataW.trod_int Tryd.underlying2 g1
    obtain ⟨z, e2, rfl, wz⟩ := DataW.trod_int Tryd.underlying2 g2
    simp [Value.cells] at e0 e1 e2
    subst e0 e1 e2
    simp only [Prod.mk.injEq] at hx
    exact ⟨x, y, z, rfl, by simpa using hx.1, by simpa using hx.2, wx, wy, wz⟩

theorem three_shut {x y z : Int} (wx : (Lit.int .i64 x).wf = true) (wy : (Lit.int .i64 y).wf = true) (wz : (Lit.int .i64 z).wf = true) :
    DataW.Trod enc Tryd.prog w base spare held 22 (.agg #[.int .i64 x, .int .i64 y, .int .i64 z]) (.agg [.lit (.int .i64 x), .lit (.int .i64 y), .lit (.int .i64 z)]) [] := by
  refine ⟨2, ?_⟩
  simp [DataW.trod, Tryd.underlying22, Tryd.underlying2, Value.cells, three_cells, one_cell, wx, wy, wz, List.range, List.range.loop]
end

end Go.Proofs.YtkjkmnclnedfhaaDoor
