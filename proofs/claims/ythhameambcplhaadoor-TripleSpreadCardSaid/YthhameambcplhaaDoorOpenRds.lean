/- Readings as an argument, []api.Read: opened. -/
import Derived.Test.YthhameambcplhaaDoorRds
import Derived.Test.YthhameambcplhaaDoorPost
import Derived.OpenShut
import Derived.Deep.Slices
import Derived.Lib.SmallJoins
namespace Go.Proofs.YthhameambcplhaaDoor
open Go.Joins Go.ChangeShapes Go.WideShapes Go.RowKit

section
variable {H : Type} {enc : TypeId × Value → H} {w : World} {base : Nat} {spare : Nat → Bool} {held : Bool}
theorem cells_rd : Tryd.prog.cellsOf 53 = 24 := by kernel_rfl
theorem cells_va : Tryd.prog.cellsOf 50 = 12 := by kernel_rfl
theorem cells_ta : Tryd.prog.cellsOf 51 = 12 := by kernel_rfl
theorem one_at {cs : List Value} {i : Nat} {v : Value} (h : (cs.drop (i * 1)).take 1 = [v]) : cs[i]? = some v := by
  have e := congrArg (fun l : List Value => l[0]?) h
  rw [Nat.mul_one] at e
  simpa [List.getElem?_take, List.getElem?_drop] using e
theorem bools12 {fuel : Nat} {cs : List Value} {x : DataW H × List MemPlace} (h : DataW.trod enc Tryd.prog w base spare held fuel 51 cs = some x) :
    ∃ al : List Bool, al.length = 12 ∧ cs = al.map fun b => Value.bool b := by
  obtain ⟨xs, m, _, _, hlen, hl, hel⟩ := DataW.trod_array Tryd.underlying51 h
  rw [cells_ta] at hlen
  have key : ∀ i, i < 12 → ∃ b, cs[i]? = some (.bool b) := fun i hi => by
    have g := hel i hi
    rw [cells_b, List.getElem?_eq_getElem (by omega)] at g
    obtain ⟨b, e, _⟩ := DataW.trod_bool Tryd.underlying4 g
    exact ⟨b, one_at e⟩
  refine ⟨(List.range 12).map fun i => if hi : i < 12 then Classical.choose (key i hi) else false, by rw [List.length_map, List.length_range], ?_⟩
  apply List.ext_getElem?
  intro i
  by_cases hi : i < 12
  · rw [List.getElem?_map, List.getElem?_map, List.getElem?_range hi, Classical.choose_spec (key i hi)]
    simp [hi]
  · rw [List.getElem?_eq_none (by omega), List.getElem?_eq_none (by simp; omega)]
theorem ints12 {fuel : Nat} {cs : List Value} {x : DataW H × List MemPlace} (h : DataW.trod enc Tryd.prog w base spare held fuel 50 cs = some x) :
    ∃ al : List Int, al.length = 12 ∧ (∀ n ∈ al, -9223372036854775808 ≤ n ∧ n ≤ 9223372036854775807) ∧ cs = al.map fun n => Value.int .i64 n := by
  obtain ⟨xs, m, _, _, hlen, hl, hel⟩ := DataW.trod_array Tryd.underlying50 h
  rw [cells_va] at hlen
  have key : ∀ i, i < 12 → ∃ n : Int, cs[i]? = some (.int .i64 n) ∧ -9223372036854775808 ≤ n ∧ n ≤ 9223372036854775807 := fun i hi => by
    have g := hel i hi
    rw [cells_n, List.getElem?_eq_getElem (by omega)] at g
    obtain ⟨b, e, _, wf⟩ := DataW.trod_int Tryd.underlying2 g
    exact ⟨b, one_at e, rng_i64 wf⟩
  refine ⟨(List.range 12).map fun i => if hi : i < 12 then Classical.choose (key i hi) else 0, by rw [List.length_map, List.length_range], ?_, ?_⟩
  · intro n hn
    obtain ⟨i, hi, rfl⟩ := List.mem_map.1 hn
    have hi' := List.mem_range.1 hi
    simp only [dif_pos hi']
    exact (Classical.choose_spec (key i hi')).2
  · apply List.ext_getElem?
    intro i
    by_cases hi : i < 12
    · rw [List.getElem?_map, List.getElem?_map, List.getElem?_range hi, (Classical.choose_spec (key i hi)).1]
      simp [hi]
    · rw [List.getElem?_eq_none (by omega), List.getElem?_eq_none (by simp; omega)]

set_option maxRecDepth 100000 in
theorem elem_rd {n : Nat} {cs : List Value} {x : DataW H × List MemPlace} (hlen : cs.length = 24) (h : DataW.trod enc Tryd.prog w base spare held n 53 cs = some x) : ∃ r : Rd, cs = rc r := by
  obtain ⟨xs, m, _, _, _, hl, hel⟩ := DataW.trod_struct Tryd.underlying53 h
  have g0 : DataW.trod enc Tryd.prog w base spare held m 50 ((cs.drop 0).take (Tryd.prog.cellsOf 50)) = xs[0]? := hel 0 _ rfl
  have g1 : DataW.trod enc Tryd.prog w base spare held m 51 ((cs.drop 12).take (Tryd.prog.cellsOf 51)) = xs[1]? := hel 1 _ rfl
  rw [cells_va] at g0
  rw [cells_ta] at g1
  have hxs : xs.length = 2 := hl
  rw [List.getElem?_eq_getElem (by omega)] at g0 g1
  obtain ⟨v, h1, h2, h3⟩ := ints12 g0
  obtain ⟨t, h4, h5⟩ := bools12 g1
  refine ⟨⟨v, t, h1, h4, h2⟩, ?_⟩
  have e : cs = (cs.drop 0).take 12 ++ (cs.drop 12).take 12 := by
    rw [List.drop_zero, List.take_of_length_le (l := cs.drop 12) (by rw [List.length_drop]; omega), List.take_append_drop]
  rw [h3, h5] at e
  exact e

set_option maxRecDepth 100000 in
theorem reads_came {r : Reach} {b0 : Nat} {v : Value} {d : DataW H} {p : List MemPlace} (hv : Value.okWide Tryd.prog w r b0 46 v) (h : DataW.Trod enc Tryd.prog w base spare held 46 v d p) :
    ∃ (ba : Option Addr) (cap : Nat) (l : List Rd), v = .slice ba l.length cap ∧ CameRd w ba cap l := by
  obtain ⟨a0, len, cap, rfl⟩ := okWide_slice Tryd.underlying46 hv
  obtain ⟨fuel, hf⟩ := h
  rcases Go.Deep.open_slice Tryd.underlying46 hf with ⟨hcs, hx⟩ | ⟨a, len', cap', m, n, D, Pl, hcs, _, hl, hm, hmm, hx, hi⟩
  · simp [Value.cells] at hcs
    obtain ⟨rfl, rfl, rfl⟩ := hcs
    exact ⟨none, 0, [], rfl, CameRd.nought w⟩
  · simp [Value.cells] at hcs
    obtain ⟨rfl, rfl, rfl⟩ := hcs
    have hlm : len ≤ m := by rw [hmm]; split <;> omega
    have H1 : ∀ i, i < len → ∃ f : Rd, ∀ k u, (rc f)[k]? = some u → w.cell? (a.add (i * 24 + k)) = some u := fun i hlt => by
      obtain ⟨cs', hc, ht'⟩ := hi i (by omega)
      rw [cells_rd] at hc
      obtain ⟨_, hcl, hat⟩ := World.cells?_some hc
      obtain ⟨f, rfl⟩ := elem_rd hcl ht'
      refine ⟨f, fun k u hu => ?_⟩
      have hk : k < 24 := by
        have := (List.getElem?_eq_some_iff.1 hu).1
        rwa [rc_len] at this
      rw [← Go.Deep.add_add, hat k hk]
      exact hu
    obtain ⟨g, hg⟩ : ∃ g : Nat → Rd, ∀ i, i < len → ∀ k u, (rc (g i))[k]? = some u → w.cell? (a.add (i * 24 + k)) = some u :=
      ⟨fun i => if h : i < len then Classical.choose (H1 i h) else rd0, fun i h => by
        simp only [dif_pos h]
        exact Classical.choose_spec (H1 i h)⟩
    have hlen : ((List.range len).map g).length = len := by simp
    have hget : ∀ j, j < len → ((List.range len).map g).getD j rd0 = g j := fun j hj => by simp [List.getD, hj]
    refine ⟨some a, cap, (List.range len).map g, by rw [hlen], ⟨by rw [hlen]; exact hl, hm, fun h0 => ?_, fun e => by cases e⟩⟩
    rw [hlen] at h0
    obtain ⟨b, off, spot⟩ := a
    have hspot : spot = none := by simpa [Addr.add] using World.cell?_spot (hg 0 h0 0 _ (rc_val (g 0) 0 (by decide)))
    subst hspot
    refine ⟨b, off, rfl, fun j hj k u hu => ?_⟩
    rw [hlen] at hj
    rw [hget j hj] at hu
    have := hg j hj k u hu
    rw [Go.WideShapes.add_plain] at this
    rw [Nat.add_assoc]
    exact this
end
end Go.Proofs.YthhameambcplhaaDoor
