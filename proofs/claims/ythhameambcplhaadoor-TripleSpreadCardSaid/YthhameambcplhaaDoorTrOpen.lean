/- Four hypotheses as an argument, [4]api.Observer: opened. -/
import Derived.Test.YthhameambcplhaaDoorObOpen
import Derived.Test.YthhameambcplhaaDoorTrQ
namespace Go.Proofs.YthhameambcplhaaDoor
open Go.Joins Go.ChangeShapes Go.WideShapes Go.RowKit Obs

section
variable {H : Type} {enc : TypeId × Value → H} {w : World} {base : Nat} {spare : Nat → Bool} {held : Bool}
theorem cells_sp : Tryd.prog.cellsOf 32 = 2 := by kernel_rfl
theorem cells_ob : Tryd.prog.cellsOf 34 = 5 := by kernel_rfl
theorem cells_qd : Tryd.prog.cellsOf 35 = 20 := by kernel_rfl
theorem elem_sp {n : Nat} {c0 c1 : Value} {x : DataW H × List MemPlace} (h : DataW.trod enc Tryd.prog w base spare held n 32 [c0, c1] = some x) :
    ∃ a b : Int, c0 = .int .i64 a ∧ c1 = .int .i64 b ∧ Sp.R6 a ∧ Sp.R6 b := by
  obtain ⟨xs, m, _, _, _, hl, hel⟩ := DataW.trod_struct Tryd.underlying32 h
  have hxs : xs.length = 2 := hl
  have g0 : DataW.trod enc Tryd.prog w base spare held m 2 (([c0, c1].drop 0).take (Tryd.prog.cellsOf 2)) = xs[0]? := hel 0 _ rfl
  have g1 : DataW.trod enc Tryd.prog w base spare held m 2 (([c0, c1].drop 1).take (Tryd.prog.cellsOf 2)) = xs[1]? := hel 1 _ rfl
  rw [cells_n1, List.getElem?_eq_getElem (by omega)] at g0 g1
  obtain ⟨a, rfl, ka⟩ := int1 g0
  obtain ⟨b, rfl, kb⟩ := int1 g1
  exact ⟨a, b, rfl, rfl, ka, kb⟩
set_option maxRecDepth 100000 in
theorem elem_ob {n : Nat} {cs : List Value} {x : DataW H × List MemPlace} (hlen : cs.length = 5) (h : DataW.trod enc Tryd.prog w base spare held n 34 cs = some x) : ∃ o : Ob, OR o ∧ cs = ol o := by
  obtain ⟨xs, m, _, _, _, hl, hel⟩ := DataW.trod_struct Tryd.underlying34 h
  have hxs : xs.length = 3 := hl
  match cs, hlen with
  | [c0, c1, c2, c3, c4], _ =>
    have g0 : DataW.trod enc Tryd.prog w base spare held m 32 (([c0, c1, c2, c3, c4].drop 0).take (Tryd.prog.cellsOf 32)) = xs[0]? := hel 0 _ rfl
    have g1 : DataW.trod enc Tryd.prog w base spare held m 32 (([c0, c1, c2, c3, c4].drop 2).take (Tryd.prog.cellsOf 32)) = xs[1]? := hel 1 _ rfl
    have g2 : DataW.trod enc Tryd.prog w base spare held m 4 (([c0, c1, c2, c3, c4].drop 4).take (Tryd.prog.cellsOf 4)) = xs[2]? := hel 2 _ rfl
    rw [cells_sp] at g0 g1
    rw [cells_b1] at g2
    rw [List.getElem?_eq_getElem (by omega)] at g0 g1 g2
    obtain ⟨a, b, rfl, rfl, ka, kb⟩ := elem_sp g0
    obtain ⟨c, d, rfl, rfl, kc, kd⟩ := elem_sp g1
    obtain ⟨r, e, _⟩ := DataW.trod_bool Tryd.underlying4 g2
    simp at e
    subst e
    exact ⟨⟨a, b, c, d, r⟩, ⟨ka, kb, kc, kd⟩, rfl⟩
set_option maxRecDepth 100000 in
theorem elem_qd {n : Nat} {cs : List Value} {x : DataW H × List MemPlace} (hlen : cs.length = 20) (h : DataW.trod enc Tryd.prog w base spare held n 35 cs = some x) : ∃ q : Qd, QR q ∧ cs = qc q := by
  obtain ⟨xs, m, _, _, hln, hl, hel⟩ := DataW.trod_array Tryd.underlying35 h
  have hxs : xs.length = 4 := hl
  have key : ∀ i, i < 4 → ∃ o : Ob, OR o ∧ (cs.drop (i * 5)).take 5 = ol o := fun i hi => by
    have g := hel i hi
    rw [cells_ob, List.getElem?_eq_getElem (by omega)] at g
    exact elem_ob (by rw [List.length_take, List.length_drop]; omega) g
  obtain ⟨o0, r0, e0⟩ := key 0 (by decide)
  obtain ⟨o1, r1, e1⟩ := key 1 (by decide)
  obtain ⟨o2, r2, e2⟩ := key 2 (by decide)
  obtain ⟨o3, r3, e3⟩ := key 3 (by decide)
  refine ⟨⟨o0, o1, o2, o3⟩, ⟨r0, r1, r2, r3⟩, ?_⟩
  show cs = ol o0 ++ (ol o1 ++ (ol o2 ++ ol o3))
  rw [← e0, ← e1, ← e2, ← e3]
  match cs, hlen with
  | [c0, c1, c2, c3, c4, c5, c6, c7, c8, c9, c10, c11, c12, c13, c14, c15, c16, c17, c18, c19], _ => rfl
theorem okWide_qd {r : Reach} {b0 : Nat} {v : Value} (hv : Value.okWide Tryd.prog w r b0 35 v) : ∃ cs : Array Value, v = .agg cs ∧ cs.size = 20 := by
  simp only [Value.okWide, Tryd.underlying35] at hv
  obtain ⟨cs, h1, h2, _⟩ := hv
  exact ⟨cs, h1, h2.trans cells_qd⟩
theorem qd_open {r : Reach} {b0 : Nat} {v : Value} {d : DataW H} {p : List MemPlace} (hv : Value.okWide Tryd.prog w r b0 35 v) (h : DataW.Trod enc Tryd.prog w base spare held 35 v d p) : ∃ q : Qd, QR q ∧ v = qv q := by
  obtain ⟨cs, rfl, hs⟩ := okWide_qd hv
  obtain ⟨fuel, hf⟩ := h
  obtain ⟨q, hq, e⟩ := elem_qd (cs := cs.toList) (by simpa using hs) hf
  exact ⟨q, hq, by rw [show cs = qa q from Array.toList_inj.1 e]⟩
end
end Go.Proofs.YthhameambcplhaaDoor
