/- Four numbers as an argument by value: opened, and shut again. -/
import Derived.Test.YtlfpmeflddimfaaProg
import Derived.OpenShut
import Derived.Lib.SmallJoins
namespace Go.Proofs.Ytlfpmeflddimfaa
open Go.Joins Go.ChangeShapes Go.WideShapes Go.RowKit

section
variable {H : Type} {enc : TypeId × Value → H} {w : World} {base : Nat} {spare : Nat → Bool} {held : Bool}

theorem four_cells : Try.prog.cellsOf 23 = 4 := by kernel_rfl
theorem one_cell4 : Try.prog.cellsOf 2 = 1 := by kernel_rfl

theorem okWide_arr4 {r : Reach} {b0 : Nat} {v : Value} (hv : Value.okWide Try.prog w r b0 23 v) : ∃ cs : Array Value, v = .agg cs ∧ cs.size = 4 := by
  simp only [Value.okWide, Try.underlying23] at hv
  obtain ⟨cs, h1, h2, _⟩ := hv
  exact ⟨cs, h1, h2.trans four_cells⟩

theorem four_open {r : Reach} {b0 : Nat} {v : Value} {d : DataW H} {p : List MemPlace} (hv : Value.okWide Try.prog w r b0 23 v) (h : DataW.Trod enc Try.prog w base spare held 23 v d p) :
    ∃ x y z u : Int, v = .agg #[.int .i64 x, .int .i64 y, .int .i64 z, .int .i64 u] ∧ d = .agg [.lit (.int .i64 x), .lit (.int .i64 y), .lit (.int .i64 z), .lit (.int .i64 u)] ∧ p = [] ∧ (Lit.int .i64 x).wf = true ∧ (Lit.int .i64 y).wf = true ∧ (Lit.int .i64 z).wf = true ∧ (Lit.int .i64 u).wf = true := by
  obtain ⟨cs, rfl, hsz⟩ := okWide_arr4 hv
  obtain ⟨fuel, hf⟩ := h
  obtain ⟨xs, m, _, hx, _, hl, hel⟩ := DataW.trod_array Try.underlying23 hf
  obtain ⟨l⟩ := cs
  match l, hsz, xs, hl with
  | [c0, c1, c2, c3], _, [y0, y1, y2, y3], _ =>
    have g0 := hel 0 (by omega)
    have g1 := hel 1 (by omega)
    have g2 := hel 2 (by omega)
    have g3 := hel 3 (by omega)
    rw [one_cell4] at g0 g1 g2 g3
    obtain ⟨x, e0, rfl, wx⟩ := DataW.trod_int Try.underlying2 g0
    obtain ⟨y, e1, rfl, wy⟩ := DataW.trod_int Try.underlying2 g1
    obtain ⟨z, e2, rfl, wz⟩ := DataW.trod_int Try.underlying2 g2
    obtain ⟨u, e3, rfl, wu⟩ := DataW.trod_int Try.underlying2 g3
    simp [Value.cells] at e0 e1 e2 e3
    subst e0 e1 e2 e3
    simp only [Prod.mk.injEq] at hx
    exact ⟨x, y, z, u, rfl, by simpa using hx.1, by simpa using hx.2, wx, wy, wz, wu⟩

theorem four_shut {x y z u : Int} (wx : (Lit.int .i64 x).wf = true) (wy : (Lit.int .i64 y).wf = true) (wz : (Lit.int .i64 z).wf = true) (wu : (Lit.int .i64 u).wf = true) :
    DataW.Trod enc Try.prog w base spare held 23 (.agg #[.int .i64 x, .int .i64 y, .int .i64 z, .int .i64 u]) (.agg [.lit (.int .i64 x), .lit (.int .i64 y), .lit (.int .i64 z), .lit (.int .i64 u)]) [] := by
  refine ⟨2, ?_⟩
  simp [DataW.trod, Try.underlying23, Try.underlying2, Value.cells, four_cells, one_cell4, wx, wy, wz, wu, List.range, List.range.loop]
end

end Go.Proofs.Ytlfpmeflddimfaa
