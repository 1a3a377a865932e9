/- A latch as an argument by value: opened (and two ints: XOpenTwo). -/
import Derived.Test.YtldbkompebefmaaDoorLdNum
import Derived.Test.YtldbkompebefmaaDoorOpenTwo
import Derived.OpenShut
import Derived.Lib.SmallJoins
namespace Go.Proofs.YtldbkompebefmaaDoor
open Go.Joins Go.ChangeShapes Go.WideShapes Go.RowKit Ld

section
variable {H : Type} {enc : TypeId × Value → H} {w : World} {base : Nat} {spare : Nat → Bool} {held : Bool}
theorem cells_la : Tryd.prog.cellsOf 23 = 6 := by kernel_rfl
theorem cells_n1 : Tryd.prog.cellsOf 3 = 1 := by kernel_rfl
theorem cells_b1 : Tryd.prog.cellsOf 4 = 1 := by kernel_rfl
theorem int1 {fuel : Nat} {c : Value} {x : DataW H × List MemPlace} (h : DataW.trod enc Tryd.prog w base spare held fuel 3 [c] = some x) : ∃ n : Int, c = .int .i64 n := by
  obtain ⟨b, e, _, _⟩ := DataW.trod_int Tryd.underlying3 h
  simp at e
  exact ⟨b, e⟩
theorem bool1 {fuel : Nat} {c : Value} {x : DataW H × List MemPlace} (h : DataW.trod enc Tryd.prog w base spare held fuel 4 [c] = some x) : ∃ n : Bool, c = .bool n := by
  obtain ⟨b, e, _⟩ := DataW.trod_bool Tryd.underlying4 h
  simp at e
  exact ⟨b, e⟩

set_option maxRecDepth 100000 in
theorem elem_la {n : Nat} {cs : List Value} {x : DataW H × List MemPlace} (hlen : cs.length = 6) (h : DataW.trod enc Tryd.prog w base spare held n 23 cs = some x) : ∃ a : La, cs = lc a := by
  obtain ⟨xs, m, _, _, _, hl, hel⟩ := DataW.trod_struct Tryd.underlying23 h
  have hxs : xs.length = 6 := hl
  match cs, hlen with
  | [c0, c1, c2, c3, c4, c5], _ =>
    have g0 : DataW.trod enc Tryd.prog w base spare held m 3 (([c0, c1, c2, c3, c4, c5].drop 0).take (Tryd.prog.cellsOf 3)) = xs[0]? := hel 0 _ rfl
    have g1 : DataW.trod enc Tryd.prog w base spare held m 4 (([c0, c1, c2, c3, c4, c5].drop 1).take (Tryd.prog.cellsOf 4)) = xs[1]? := hel 1 _ rfl
    have g2 : DataW.trod enc Tryd.prog w base spare held m 3 (([c0, c1, c2, c3, c4, c5].drop 2).take (Tryd.prog.cellsOf 3)) = xs[2]? := hel 2 _ rfl
    have g3 : DataW.trod enc Tryd.prog w base spare held m 3 (([c0, c1, c2, c3, c4, c5].drop 3).take (Tryd.prog.cellsOf 3)) = xs[3]? := hel 3 _ rfl
    have g4 : DataW.trod enc Tryd.prog w base spare held m 4 (([c0, c1, c2, c3, c4, c5].drop 4).take (Tryd.prog.cellsOf 4)) = xs[4]? := hel 4 _ rfl
    have g5 : DataW.trod enc Tryd.prog w base spare held m 4 (([c0, c1, c2, c3, c4, c5].drop 5).take (Tryd.prog.cellsOf 4)) = xs[5]? := hel 5 _ rfl
    rw [cells_n1] at g0 g2 g3
    rw [cells_b1] at g1 g4 g5
    rw [List.getElem?_eq_getElem (by omega)] at g0 g1 g2 g3 g4 g5
    obtain ⟨z0, rfl⟩ := int1 g0
    obtain ⟨z1, rfl⟩ := bool1 g1
    obtain ⟨z2, rfl⟩ := int1 g2
    obtain ⟨z3, rfl⟩ := int1 g3
    obtain ⟨z4, rfl⟩ := bool1 g4
    obtain ⟨z5, rfl⟩ := bool1 g5
    exact ⟨⟨z0, z1, z2, z3, z4, z5⟩, rfl⟩
theorem okWide_la {r : Reach} {b0 : Nat} {v : Value} (hv : Value.okWide Tryd.prog w r b0 23 v) : ∃ cs : Array Value, v = .agg cs ∧ cs.size = 6 := by
  simp only [Value.okWide, Tryd.underlying23] at hv
  obtain ⟨cs, h1, h2, _⟩ := hv
  exact ⟨cs, h1, h2.trans cells_la⟩
theorem latch_open {r : Reach} {b0 : Nat} {v : Value} {d : DataW H} {p : List MemPlace} (hv : Value.okWide Tryd.prog w r b0 23 v) (h : DataW.Trod enc Tryd.prog w base spare held 23 v d p) : ∃ a : La, v = lv a := by
  obtain ⟨cs, rfl, hs⟩ := okWide_la hv
  obtain ⟨fuel, hf⟩ := h
  obtain ⟨a, e⟩ := elem_la (cs := cs.toList) (by simpa using hs) hf
  exact ⟨a, by rw [show cs = (lc a).toArray from Array.toList_inj.1 e]⟩
end
end Go.Proofs.YtldbkompebefmaaDoor
