/- A case of layer 33's law as an argument by value: 22 truths, three numbers, twice four hypotheses: opened. -/
import Derived.Test.YtldbkompebefmaaDoorLtBls
import Derived.Test.YtldbkompebefmaaDoorLtQ
import Derived.Test.YtldbkompebefmaaDoorLdOpen
namespace Go.Proofs.YtldbkompebefmaaDoor
open Go.Joins Go.ChangeShapes Go.WideShapes Go.RowKit Obs

def cs33 (al : List Bool) (x y z : Int) (p q : Qd) : List Value := (al.map fun b => Value.bool b) ++ (.int .i64 x :: .int .i64 y :: .int .i64 z :: (qc p ++ qc q))
def ca33 (al : List Bool) (x y z : Int) (p q : Qd) : Array Value := (cs33 al x y z p q).toArray
def zq : Qd := ⟨⟨0, 0, 0, 0, false⟩, ⟨0, 0, 0, 0, false⟩, ⟨0, 0, 0, 0, false⟩, ⟨0, 0, 0, 0, false⟩⟩
/-- the case of which all is zero -/
def za33 : Array Value := ca33 (List.replicate 22 false) 0 0 0 zq zq
theorem ca33_list (al : List Bool) (x y z : Int) (p q : Qd) : (ca33 al x y z p q).toList = cs33 al x y z p q := rfl

section
variable {H : Type} {enc : TypeId × Value → H} {w : World} {base : Nat} {spare : Nat → Bool} {held : Bool}
theorem cells_b22 : Tryd.prog.cellsOf 24 = 22 := by kernel_rfl
theorem cells_n3 : Tryd.prog.cellsOf 25 = 3 := by kernel_rfl
theorem cells_sp2 : Tryd.prog.cellsOf 27 = 2 := by kernel_rfl
theorem cells_ob : Tryd.prog.cellsOf 29 = 5 := by kernel_rfl
theorem cells_qd : Tryd.prog.cellsOf 30 = 20 := by kernel_rfl
theorem cells_l1 : Tryd.prog.cellsOf 2 = 1 := by kernel_rfl
theorem cells_cs : Tryd.prog.cellsOf 32 = 65 := by kernel_rfl
theorem one_in {cs : List Value} {i : Nat} {v : Value} (h : (cs.drop (i * 1)).take 1 = [v]) : cs[i]? = some v := by
  have e := congrArg (fun l : List Value => l[0]?) h
  rw [Nat.mul_one] at e
  simpa [List.getElem?_take, List.getElem?_drop] using e
theorem bools_in {n t : Nat} {fuel : Nat} {cs : List Value} {x : DataW H × List MemPlace} (ht : Tryd.prog.underlying t = some (.array n 4)) (hc : Tryd.prog.cellsOf t = n) (h : DataW.trod enc Tryd.prog w base spare held fuel t cs = some x) :
    ∃ al : List Bool, al.length = n ∧ cs = al.map fun b => Value.bool b := by
  obtain ⟨xs, m, _, _, hlen, hl, hel⟩ := DataW.trod_array ht h
  rw [hc] at hlen
  have key : ∀ i, i < n → ∃ b, cs[i]? = some (.bool b) := fun i hi => by
    have g := hel i hi
    rw [cells_b1, List.getElem?_eq_getElem (by omega)] at g
    obtain ⟨b, e, _⟩ := DataW.trod_bool Tryd.underlying4 g
    exact ⟨b, one_in e⟩
  refine ⟨(List.range n).map fun i => if hi : i < n then Classical.choose (key i hi) else false, by rw [List.length_map, List.length_range], ?_⟩
  apply List.ext_getElem?
  intro i
  by_cases hi : i < n
  · rw [List.getElem?_map, List.getElem?_map, List.getElem?_range hi, Classical.choose_spec (key i hi)]
    simp [hi]
  · rw [List.getElem?_eq_none (by omega), List.getElem?_eq_none (by simp; omega)]
theorem ints_in {fuel : Nat} {cs : List Value} {x : DataW H × List MemPlace} (hlen : cs.length = 3) (h : DataW.trod enc Tryd.prog w base spare held fuel 25 cs = some x) :
    ∃ x y z : Int, cs = [.int .i64 x, .int .i64 y, .int .i64 z] := by
  obtain ⟨xs, m, _, _, _, hl, hel⟩ := DataW.trod_array Tryd.underlying25 h
  have hxs : xs.length = 3 := hl
  match cs, hlen with
  | [c0, c1, c2], _ =>
    have g0 := hel 0 (by omega)
    have g1 := hel 1 (by omega)
    have g2 := hel 2 (by omega)
    rw [cells_n1, List.getElem?_eq_getElem (by omega)] at g0 g1 g2
    obtain ⟨a, rfl⟩ := int1 g0
    obtain ⟨b, rfl⟩ := int1 g1
    obtain ⟨c, rfl⟩ := int1 g2
    exact ⟨a, b, c, rfl⟩
theorem long1 {fuel : Nat} {c : Value} {x : DataW H × List MemPlace} (h : DataW.trod enc Tryd.prog w base spare held fuel 2 [c] = some x) : ∃ n : Int, c = .int .i64 n := by
  obtain ⟨b, e, _, _⟩ := DataW.trod_int Tryd.underlying2 h
  simp at e
  exact ⟨b, e⟩
theorem span_in {n : Nat} {c0 c1 : Value} {x : DataW H × List MemPlace} (h : DataW.trod enc Tryd.prog w base spare held n 27 [c0, c1] = some x) :
    ∃ a b : Int, c0 = .int .i64 a ∧ c1 = .int .i64 b := by
  obtain ⟨xs, m, _, _, _, hl, hel⟩ := DataW.trod_struct Tryd.underlying27 h
  have hxs : xs.length = 2 := hl
  have g0 : DataW.trod enc Tryd.prog w base spare held m 2 (([c0, c1].drop 0).take (Tryd.prog.cellsOf 2)) = xs[0]? := hel 0 _ rfl
  have g1 : DataW.trod enc Tryd.prog w base spare held m 2 (([c0, c1].drop 1).take (Tryd.prog.cellsOf 2)) = xs[1]? := hel 1 _ rfl
  rw [cells_l1, List.getElem?_eq_getElem (by omega)] at g0 g1
  obtain ⟨a, rfl⟩ := long1 g0
  obtain ⟨b, rfl⟩ := long1 g1
  exact ⟨a, b, rfl, rfl⟩
set_option maxRecDepth 100000 in
theorem ob_in {n : Nat} {cs : List Value} {x : DataW H × List MemPlace} (hlen : cs.length = 5) (h : DataW.trod enc Tryd.prog w base spare held n 29 cs = some x) : ∃ o : Ob, cs = ol o := by
  obtain ⟨xs, m, _, _, _, hl, hel⟩ := DataW.trod_struct Tryd.underlying29 h
  have hxs : xs.length = 3 := hl
  match cs, hlen with
  | [c0, c1, c2, c3, c4], _ =>
    have g0 : DataW.trod enc Tryd.prog w base spare held m 27 (([c0, c1, c2, c3, c4].drop 0).take (Tryd.prog.cellsOf 27)) = xs[0]? := hel 0 _ rfl
    have g1 : DataW.trod enc Tryd.prog w base spare held m 27 (([c0, c1, c2, c3, c4].drop 2).take (Tryd.prog.cellsOf 27)) = xs[1]? := hel 1 _ rfl
    have g2 : DataW.trod enc Tryd.prog w base spare held m 4 (([c0, c1, c2, c3, c4].drop 4).take (Tryd.prog.cellsOf 4)) = xs[2]? := hel 2 _ rfl
    rw [cells_sp2] at g0 g1
    rw [cells_b1] at g2
    rw [List.getElem?_eq_getElem (by omega)] at g0 g1 g2
    obtain ⟨a, b, rfl, rfl⟩ := span_in g0
    obtain ⟨c, d, rfl, rfl⟩ := span_in g1
    obtain ⟨r, rfl⟩ := bool1 g2
    exact ⟨⟨a, b, c, d, r⟩, rfl⟩
set_option maxRecDepth 100000 in
theorem qd_in {n : Nat} {cs : List Value} {x : DataW H × List MemPlace} (hlen : cs.length = 20) (h : DataW.trod enc Tryd.prog w base spare held n 30 cs = some x) : ∃ q : Qd, cs = qc q := by
  obtain ⟨xs, m, _, _, hln, hl, hel⟩ := DataW.trod_array Tryd.underlying30 h
  have hxs : xs.length = 4 := hl
  have key : ∀ i, i < 4 → ∃ o : Ob, (cs.drop (i * 5)).take 5 = ol o := fun i hi => by
    have g := hel i hi
    rw [cells_ob, List.getElem?_eq_getElem (by omega)] at g
    exact ob_in (by rw [List.length_take, List.length_drop]; omega) g
  obtain ⟨o0, e0⟩ := key 0 (by decide)
  obtain ⟨o1, e1⟩ := key 1 (by decide)
  obtain ⟨o2, e2⟩ := key 2 (by decide)
  obtain ⟨o3, e3⟩ := key 3 (by decide)
  refine ⟨⟨o0, o1, o2, o3⟩, ?_⟩
  show cs = ol o0 ++ (ol o1 ++ (ol o2 ++ ol o3))
  rw [← e0, ← e1, ← e2, ← e3]
  match cs, hlen with
  | [c0, c1, c2, c3, c4, c5, c6, c7, c8, c9, c10, c11, c12, c13, c14, c15, c16, c17, c18, c19], _ => rfl
theorem okWide_cs {r : Reach} {b0 : Nat} {v : Value} (hv : Value.okWide Tryd.prog w r b0 32 v) : ∃ cs : Array Value, v = .agg cs ∧ cs.size = 65 := by
  simp only [Value.okWide, Tryd.underlying32] at hv
  obtain ⟨cs, h1, h2, _⟩ := hv
  exact ⟨cs, h1, h2.trans cells_cs⟩
theorem parts65 {l : List Value} (h : l.length = 65) : l = (l.drop 0).take 22 ++ ((l.drop 22).take 3 ++ ((l.drop 25).take 20 ++ (l.drop 45).take 20)) := by
  have e1 := List.take_append_drop 22 l
  have e2 := List.take_append_drop 3 (l.drop 22)
  have e3 := List.take_append_drop 20 (l.drop 25)
  rw [List.drop_drop] at e2 e3
  have e4 : (l.drop 45).take 20 = l.drop 45 := List.take_of_length_le (by rw [List.length_drop]; omega)
  rw [e4, e3, e2, List.drop_zero, e1]
set_option maxRecDepth 100000 in
theorem case_open {r : Reach} {b0 : Nat} {v : Value} {d : DataW H} {p : List MemPlace} (hv : Value.okWide Tryd.prog w r b0 32 v) (h : DataW.Trod enc Tryd.prog w base spare held 32 v d p) :
    ∃ (al : List Bool) (x y z : Int) (p q : Qd), al.length = 22 ∧ v = .agg (ca33 al x y z p q) := by
  obtain ⟨cs, rfl, hs⟩ := okWide_cs hv
  obtain ⟨fuel, hf⟩ := h
  obtain ⟨l⟩ := cs
  have hlen : l.length = 65 := by simpa using hs
  have hf' : DataW.trod enc Tryd.prog w base spare held fuel 32 l = some (d, p) := hf
  clear hf
  obtain ⟨xs, m, _, _, _, hl, hel⟩ := DataW.trod_struct Tryd.underlying32 hf'
  have hxs : xs.length = 4 := hl
  have g0 : DataW.trod enc Tryd.prog w base spare held m 24 ((l.drop 0).take (Tryd.prog.cellsOf 24)) = xs[0]? := hel 0 _ rfl
  have g1 : DataW.trod enc Tryd.prog w base spare held m 25 ((l.drop 22).take (Tryd.prog.cellsOf 25)) = xs[1]? := hel 1 _ rfl
  have g2 : DataW.trod enc Tryd.prog w base spare held m 30 ((l.drop 25).take (Tryd.prog.cellsOf 30)) = xs[2]? := hel 2 _ rfl
  have g3 : DataW.trod enc Tryd.prog w base spare held m 30 ((l.drop 45).take (Tryd.prog.cellsOf 30)) = xs[3]? := hel 3 _ rfl
  rw [cells_b22] at g0
  rw [cells_n3] at g1
  rw [cells_qd] at g2 g3
  rw [List.getElem?_eq_getElem (by omega)] at g0 g1 g2 g3
  obtain ⟨al, h1, e0⟩ := bools_in Tryd.underlying24 cells_b22 g0
  obtain ⟨x, y, z, e1⟩ := ints_in (by rw [List.length_take, List.length_drop]; omega) g1
  obtain ⟨p, e2⟩ := qd_in (by rw [List.length_take, List.length_drop]; omega) g2
  obtain ⟨q, e3⟩ := qd_in (by rw [List.length_take, List.length_drop]; omega) g3
  refine ⟨al, x, y, z, p, q, h1, ?_⟩
  have e := parts65 hlen
  rw [e0, e1, e2, e3] at e
  rw [show (⟨l⟩ : Array Value) = ca33 al x y z p q from Array.toList_inj.1 e]
end
end Go.Proofs.YtldbkompebefmaaDoor
