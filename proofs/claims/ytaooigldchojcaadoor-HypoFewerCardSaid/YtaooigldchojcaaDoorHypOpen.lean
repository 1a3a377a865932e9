/- 22 bools, a bank, two ints, and ints that came in, as arguments: opened. -/
import Derived.Test.YtaooigldchojcaaDoorBls
import Derived.Test.YtaooigldchojcaaDoorInts
import Derived.OpenShut
import Derived.ProofKit
import Derived.Laws.BytesArg
import Derived.ChangeSlices
import Derived.WideShapes
import Derived.Lib.SmallJoins
namespace Go.Proofs.YtaooigldchojcaaDoor
open Go.Joins Go.ChangeShapes Go.WideShapes Go.RowKit

section
variable {H : Type} {enc : TypeId × Value → H} {w : World} {base : Nat} {spare : Nat → Bool} {held : Bool}

theorem cells22 : Tryd.prog.cellsOf 26 = 22 := by kernel_rfl
theorem cells15b : Tryd.prog.cellsOf 23 = 15 := by kernel_rfl
theorem cells15i : Tryd.prog.cellsOf 22 = 15 := by kernel_rfl
theorem cells30 : Tryd.prog.cellsOf 25 = 30 := by kernel_rfl
theorem cells2 : Tryd.prog.cellsOf 27 = 2 := by kernel_rfl
theorem cellb : Tryd.prog.cellsOf 4 = 1 := by kernel_rfl
theorem celli : Tryd.prog.cellsOf 2 = 1 := by kernel_rfl
theorem celln : Tryd.prog.cellsOf 3 = 1 := by kernel_rfl

theorem one_at {cs : List Value} {i : Nat} {v : Value} (h : (cs.drop (i * 1)).take 1 = [v]) : cs[i]? = some v := by
  have e := congrArg (fun l : List Value => l[0]?) h
  rw [Nat.mul_one] at e
  simpa [List.getElem?_take, List.getElem?_drop] using e
theorem bools_of {n t : Nat} {fuel : Nat} {cs : List Value} {x : DataW H × List MemPlace} (ht : Tryd.prog.underlying t = some (.array n 4)) (hc : Tryd.prog.cellsOf t = n) (h : DataW.trod enc Tryd.prog w base spare held fuel t cs = some x) :
    ∃ al : List Bool, al.length = n ∧ cs = al.map fun b => Value.bool b := by
  obtain ⟨xs, m, _, _, hlen, hl, hel⟩ := DataW.trod_array ht h
  rw [hc] at hlen
  have key : ∀ i, i < n → ∃ b, cs[i]? = some (.bool b) := fun i hi => by
    have g := hel i hi
    rw [cellb, List.getElem?_eq_getElem (by omega)] at g
    obtain ⟨b, e, _⟩ := DataW.trod_bool Tryd.underlying4 g
    exact ⟨b, one_at e⟩
  refine ⟨(List.range n).map fun i => if hi : i < n then Classical.choose (key i hi) else false, by rw [List.length_map, List.length_range], ?_⟩
  apply List.ext_getElem?
  intro i
  by_cases hi : i < n
  · rw [List.getElem?_map, List.getElem?_map, List.getElem?_range hi, Classical.choose_spec (key i hi)]
    simp [hi]
  · rw [List.getElem?_eq_none (by omega), List.getElem?_eq_none (by simp; omega)]
theorem i64s_of {n t : Nat} {fuel : Nat} {cs : List Value} {x : DataW H × List MemPlace} (ht : Tryd.prog.underlying t = some (.array n 2)) (hc : Tryd.prog.cellsOf t = n) (h : DataW.trod enc Tryd.prog w base spare held fuel t cs = some x) :
    cs.length = n ∧ cs.all (·.oneCell') = true := by
  obtain ⟨xs, m, _, _, hlen, hl, hel⟩ := DataW.trod_array ht h
  rw [hc] at hlen
  refine ⟨hlen, List.all_eq_true.2 fun v hv => ?_⟩
  obtain ⟨i, hi, rfl⟩ := List.mem_iff_getElem.1 hv
  have g := hel i (by omega)
  rw [celli, List.getElem?_eq_getElem (by omega)] at g
  obtain ⟨b, e, _⟩ := DataW.trod_int Tryd.underlying2 g
  have := one_at e
  rw [List.getElem?_eq_getElem hi] at this
  injection this with this
  rw [this]; rfl

theorem okWide_agg22 {r : Reach} {b0 : Nat} {v : Value} (hv : Value.okWide Tryd.prog w r b0 26 v) : ∃ cs : Array Value, v = .agg cs := by
  simp only [Value.okWide, Tryd.underlying26] at hv
  obtain ⟨cs, h1, _⟩ := hv
  exact ⟨cs, h1⟩
theorem okWide_aggB {r : Reach} {b0 : Nat} {v : Value} (hv : Value.okWide Tryd.prog w r b0 25 v) : ∃ cs : Array Value, v = .agg cs := by
  simp only [Value.okWide, Tryd.underlying25] at hv
  obtain ⟨cs, h1, _⟩ := hv
  exact ⟨cs, h1⟩
theorem okWide_agg2 {r : Reach} {b0 : Nat} {v : Value} (hv : Value.okWide Tryd.prog w r b0 27 v) : ∃ cs : Array Value, v = .agg cs ∧ cs.size = 2 := by
  simp only [Value.okWide, Tryd.underlying27] at hv
  obtain ⟨cs, h1, h2, _⟩ := hv
  exact ⟨cs, h1, h2.trans cells2⟩

theorem alive_open {r : Reach} {b0 : Nat} {v : Value} {d : DataW H} {p : List MemPlace} (hv : Value.okWide Tryd.prog w r b0 26 v) (h : DataW.Trod enc Tryd.prog w base spare held 26 v d p) : ∃ al : List Bool, al.length = 22 ∧ v = .agg (bl al) := by
  obtain ⟨cs, rfl⟩ := okWide_agg22 hv
  obtain ⟨fuel, hf⟩ := h
  obtain ⟨al, h1, h2⟩ := bools_of Tryd.underlying26 cells22 hf
  refine ⟨al, h1, ?_⟩
  have h3 : cs.toList = al.map fun b => Value.bool b := h2
  rw [show cs = bl al from Array.toList_inj.1 h3]
theorem bank_open {r : Reach} {b0 : Nat} {v : Value} {d : DataW H} {p : List MemPlace} (hv : Value.okWide Tryd.prog w r b0 25 v) (h : DataW.Trod enc Tryd.prog w base spare held 25 v d p) : ∃ (cs : List Value) (rf : List Bool), Bk cs rf ∧ v = .agg (bk cs rf) := by
  obtain ⟨cs, rfl⟩ := okWide_aggB hv
  obtain ⟨fuel, hf⟩ := h
  obtain ⟨xs, m, _, _, hlen, hl, hel⟩ := DataW.trod_struct Tryd.underlying25 hf
  rw [cells30] at hlen
  have g0 : DataW.trod enc Tryd.prog w base spare held m 22 ((cs.toList.drop 0).take (Tryd.prog.cellsOf 22)) = xs[0]? := hel 0 _ rfl
  have g1 : DataW.trod enc Tryd.prog w base spare held m 23 ((cs.toList.drop 15).take (Tryd.prog.cellsOf 23)) = xs[1]? := hel 1 _ rfl
  rw [cells15i] at g0
  rw [cells15b] at g1
  have hxs : xs.length = 2 := hl
  rw [List.getElem?_eq_getElem (by omega)] at g0 g1
  obtain ⟨h1, h2⟩ := i64s_of Tryd.underlying22 cells15i g0
  obtain ⟨rf, h3, h4⟩ := bools_of Tryd.underlying23 cells15b g1
  refine ⟨_, rf, ⟨h1, h3, h2⟩, ?_⟩
  have e : cs.toList = (cs.toList.drop 0).take 15 ++ (cs.toList.drop 15).take 15 := by
    have hlen' : cs.toList.length = 30 := hlen
    rw [List.drop_zero, List.take_of_length_le (l := cs.toList.drop 15) (by rw [List.length_drop]; omega), List.take_append_drop]
  have h5 : (cs.toList.drop 15).take 15 = rf.map fun b => Value.bool b := h4
  rw [h5] at e
  exact congrArg Value.agg (Array.toList_inj.1 e)
theorem two_open {r : Reach} {b0 : Nat} {v : Value} {d : DataW H} {p : List MemPlace} (hv : Value.okWide Tryd.prog w r b0 27 v) (h : DataW.Trod enc Tryd.prog w base spare held 27 v d p) : ∃ x y : Int, v = .agg #[.int .i64 x, .int .i64 y] ∧ (Lit.int .i64 x).wf = true ∧ (Lit.int .i64 y).wf = true := by
  obtain ⟨cs, rfl, hsz⟩ := okWide_agg2 hv
  obtain ⟨fuel, hf⟩ := h
  obtain ⟨xs, m, _, _, _, hl, hel⟩ := DataW.trod_array Tryd.underlying27 hf
  obtain ⟨l⟩ := cs
  match l, hsz, xs, hl with
  | [c0, c1], _, [y0, y1], _ =>
    have g0 := hel 0 (by omega)
    have g1 := hel 1 (by omega)
    rw [celln] at g0 g1
    obtain ⟨x, e0, _, wx⟩ := DataW.trod_int Tryd.underlying3 g0
    obtain ⟨y, e1, _, wy⟩ := DataW.trod_int Tryd.underlying3 g1
    simp [Value.cells] at e0 e1
    subst e0 e1
    exact ⟨x, y, rfl, wx, wy⟩
end

/-- ints that came in -/
structure CameI (w : World) (ba : Option Addr) (cap : Nat) (l : List Int) : Prop where
  le : l.length ≤ cap
  max : cap ≤ maxLen
  wf : ∀ x ∈ l, (Lit.int .i64 x).wf = true
  lies : 0 < l.length → ∃ b o, ba = some ⟨b, o, none⟩ ∧ ∀ j, j < l.length → w.cell? ⟨b, o + j, none⟩ = some (.int .i64 (l.getD j 0))
theorem CameI.keep {w w' : World} {ba : Option Addr} {cap : Nat} {l : List Int} (h : CameI w ba cap l) (hb : Below w.heap.size w w') : CameI w' ba cap l := ⟨h.le, h.max, h.wf, fun h0 => by
  obtain ⟨b, o, e, c⟩ := h.lies h0
  exact ⟨b, o, e, fun j hj => keepc hb (c j hj)⟩⟩
section
variable {H : Type} {enc : TypeId × Value → H} {w : World} {base : Nat} {held : Bool}
set_option maxRecDepth 100000 in
theorem ints_came {r : Reach} {b0 : Nat} {v : Value} {d : DataW H} {p : List MemPlace} (hv : Value.okWide Tryd.prog w r b0 34 v) (h : DataW.Trod enc Tryd.prog w base (fun _ => true) held 34 v d p) :
    ∃ (ba : Option Addr) (cap : Nat) (l : List Int), v = .slice ba l.length cap ∧ CameI w ba cap l := by
  obtain ⟨a0, len, cap, rfl⟩ := okWide_slice Tryd.underlying34 hv
  obtain ⟨fuel, hf⟩ := h
  rcases open_ints Tryd.underlying34 Tryd.underlying3 celln hf with ⟨hcs, hx⟩ | ⟨a, len', cap', zs, hcs, _, hl, hm, hz, hx, hcell, hwz⟩
  · simp [Value.cells] at hcs
    obtain ⟨rfl, rfl, rfl⟩ := hcs
    exact ⟨none, 0, [], rfl, Nat.le_refl _, Nat.zero_le _, fun _ h => (by cases h), fun h => absurd h (by decide)⟩
  · simp [Value.cells] at hcs
    obtain ⟨rfl, rfl, rfl⟩ := hcs
    simp only [if_true] at hz
    have hlen : (zs.take len).length = len := by rw [List.length_take]; omega
    refine ⟨some a, cap, zs.take len, by rw [hlen], by rw [hlen]; exact hl, hm, fun x hx => hwz x (List.mem_of_mem_take hx), fun h0 => ?_⟩
    rw [hlen] at h0
    obtain ⟨b, o, rfl, hc⟩ := ints_at hcell (by omega)
    refine ⟨b, o, rfl, fun j hj => ?_⟩
    rw [hlen] at hj
    have hz' : j < zs.length := by omega
    have g : (zs.take len).getD j 0 = zs[j] := by simp [List.getD, hj, hz']
    have e : zs.getD j 0 = zs[j] := by simp [List.getD, List.getElem?_eq_getElem hz']
    rw [hc j hz', g, e]
end
end Go.Proofs.YtaooigldchojcaaDoor
