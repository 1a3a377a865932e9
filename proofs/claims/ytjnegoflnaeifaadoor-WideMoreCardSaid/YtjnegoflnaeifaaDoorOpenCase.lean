/- A divisor and a text as an argument by value: opened to both, and shut again. -/
import Derived.Test.YtjnegoflnaeifaaDoorProg
import Derived.OpenShut
import Derived.Lib.SmallJoins
namespace Go.Proofs.YtjnegoflnaeifaaDoor
open Go.Joins Go.ChangeShapes Go.WideShapes Go.RowKit

section
variable {H : Type} {enc : TypeId × Value → H} {w : World} {base : Nat} {spare : Nat → Bool} {held : Bool}

theorem case_cells : Tryd.prog.cellsOf 26 = 2 := by kernel_rfl

set_option maxRecDepth 100000 in
theorem case_open {r : Reach} {b0 : Nat} {v : Value} {d : DataW H} {p : List MemPlace} (hv : Value.okWide Tryd.prog w r b0 26 v) (h : DataW.Trod enc Tryd.prog w base spare held 26 v d p) :
    ∃ (x : Int) (s : ByteArray), v = .agg #[.int .i64 x, .string s] ∧ d = .agg [.lit (.int .i64 x), .lit (.string s.data.toList)] ∧ p = [] ∧ (Lit.int .i64 x).wf = true ∧ s.size ≤ maxLen := by
  obtain ⟨c0, c1, y0, y1, m, rfl, rfl, rfl, h0, h1⟩ := open_agg2 Tryd.underlying26 (by kernel_rfl) case_cells hv h
  obtain ⟨x, e0, rfl, wx⟩ := DataW.trod_int Tryd.underlying2 h0
  obtain ⟨s, e1, rfl, ws⟩ := DataW.trod_string Tryd.underlying9 h1
  simp at e0 e1
  subst e0 e1
  exact ⟨x, s, rfl, rfl, rfl, wx, ws⟩

set_option maxRecDepth 100000 in
theorem case_shut {x : Int} {s : ByteArray} (wx : (Lit.int .i64 x).wf = true) (ws : s.size ≤ maxLen) :
    DataW.Trod enc Tryd.prog w base spare held 26 (.agg #[.int .i64 x, .string s]) (.agg [.lit (.int .i64 x), .lit (.string s.data.toList)]) [] :=
  shut_agg2 (y0 := (.lit (.int .i64 x), [])) (y1 := (.lit (.string s.data.toList), [])) Tryd.underlying26 (by kernel_rfl) case_cells ⟨1, by simp [DataW.trod, Tryd.underlying2, wx]⟩ ⟨1, by simp [DataW.trod, Tryd.underlying9, ws]⟩
end

end Go.Proofs.YtjnegoflnaeifaaDoor
