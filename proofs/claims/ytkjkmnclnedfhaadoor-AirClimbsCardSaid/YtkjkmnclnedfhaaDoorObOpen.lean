/- What is known of a quantity of the air, and ticks that came in, as arguments: opened. -/
import Derived.Test.YtkjkmnclnedfhaaDoorObTick
import Derived.Test.YtkjkmnclnedfhaaDoorObCfgA
import Derived.Test.YtkjkmnclnedfhaaDoorOpen3
import Derived.OpenShut
import Derived.Deep.Slices
import Derived.Lib.SmallJoins
namespace Go.Proofs.YtkjkmnclnedfhaaDoor
open Go.Joins Go.ChangeShapes Go.WideShapes Go.RowKit Obs

section
variable {H : Type} {enc : TypeId × Value → H} {w : World} {base : Nat} {spare : Nat → Bool} {held : Bool}
theorem cells_air : Tryd.prog.cellsOf 25 = 10 := by kernel_rfl
theorem cells_tk : Tryd.prog.cellsOf 39 = 8 := by kernel_rfl
theorem cells_n3 : Tryd.prog.cellsOf 22 = 3 := by kernel_rfl
theorem cells_b3 : Tryd.prog.cellsOf 23 = 3 := by kernel_rfl
theorem cells_n1 : Tryd.prog.cellsOf 2 = 1 := by kernel_rfl
theorem cells_b1 : Tryd.prog.cellsOf 4 = 1 := by kernel_rfl
theorem ints3 {fuel : Nat} {c0 c1 c2 : Value} {x : DataW H × List MemPlace} (h : DataW.trod enc Tryd.prog w base spare held fuel 22 [c0, c1, c2] = some x) :
    ∃ x y z : Int, c0 = .int .i64 x ∧ c1 = .int .i64 y ∧ c2 = .int .i64 z ∧ Sp.R6 x ∧ Sp.R6 y ∧ Sp.R6 z := by
  obtain ⟨xs, m, _, _, hlen, hl, hel⟩ := DataW.trod_array Tryd.underlying22 h
  have hxs : xs.length = 3 := hl
  have key : ∀ i, i < 3 → ∃ n : Int, ([c0, c1, c2].drop i).take 1 = [.int .i64 n] ∧ Sp.R6 n := fun i hi => by
    have g := hel i hi
    rw [cells_n1, List.getElem?_eq_getElem (by omega), Nat.mul_one] at g
    obtain ⟨b, e, _, wf⟩ := DataW.trod_int Tryd.underlying2 g
    exact ⟨b, e, rng_i64 wf⟩
  obtain ⟨a, ha, ra⟩ := key 0 (by decide)
  obtain ⟨b, hb, rb⟩ := key 1 (by decide)
  obtain ⟨c, hc, rc⟩ := key 2 (by decide)
  simp at ha hb hc
  exact ⟨a, b, c, ha, hb, hc, ra, rb, rc⟩
theorem bools3 {fuel : Nat} {c0 c1 c2 : Value} {x : DataW H × List MemPlace} (h : DataW.trod enc Tryd.prog w base spare held fuel 23 [c0, c1, c2] = some x) :
    ∃ x y z : Bool, c0 = .bool x ∧ c1 = .bool y ∧ c2 = .bool z := by
  obtain ⟨xs, m, _, _, hlen, hl, hel⟩ := DataW.trod_array Tryd.underlying23 h
  have hxs : xs.length = 3 := hl
  have key : ∀ i, i < 3 → ∃ n : Bool, ([c0, c1, c2].drop i).take 1 = [.bool n] := fun i hi => by
    have g := hel i hi
    rw [cells_b1, List.getElem?_eq_getElem (by omega), Nat.mul_one] at g
    obtain ⟨b, e, _⟩ := DataW.trod_bool Tryd.underlying4 g
    exact ⟨b, e⟩
  obtain ⟨a, ha⟩ := key 0 (by decide)
  obtain ⟨b, hb⟩ := key 1 (by decide)
  obtain ⟨c, hc⟩ := key 2 (by decide)
  simp at ha hb hc
  exact ⟨a, b, c, ha, hb, hc⟩
theorem int1 {fuel : Nat} {c : Value} {x : DataW H × List MemPlace} (h : DataW.trod enc Tryd.prog w base spare held fuel 2 [c] = some x) : ∃ n : Int, c = .int .i64 n ∧ Sp.R6 n := by
  obtain ⟨b, e, _, wf⟩ := DataW.trod_int Tryd.underlying2 h
  simp at e
  exact ⟨b, e, rng_i64 wf⟩

set_option maxRecDepth 100000 in
theorem elem_air {n : Nat} {cs : List Value} {x : DataW H × List MemPlace} (hlen : cs.length = 10) (h : DataW.trod enc Tryd.prog w base spare held n 25 cs = some x) : ∃ a : Ai, AI a ∧ cs = al a := by
  obtain ⟨xs, m, _, _, _, hl, hel⟩ := DataW.trod_struct Tryd.underlying25 h
  have hxs : xs.length = 6 := hl
  match cs, hlen with
  | [c0, c1, c2, c3, c4, c5, c6, c7, c8, c9], _ =>
    have g0 : DataW.trod enc Tryd.prog w base spare held m 22 (([c0, c1, c2, c3, c4, c5, c6, c7, c8, c9].drop 0).take (Tryd.prog.cellsOf 22)) = xs[0]? := hel 0 _ rfl
    have g1 : DataW.trod enc Tryd.prog w base spare held m 23 (([c0, c1, c2, c3, c4, c5, c6, c7, c8, c9].drop 3).take (Tryd.prog.cellsOf 23)) = xs[1]? := hel 1 _ rfl
    have g2 : DataW.trod enc Tryd.prog w base spare held m 2 (([c0, c1, c2, c3, c4, c5, c6, c7, c8, c9].drop 6).take (Tryd.prog.cellsOf 2)) = xs[2]? := hel 2 _ rfl
    have g3 : DataW.trod enc Tryd.prog w base spare held m 2 (([c0, c1, c2, c3, c4, c5, c6, c7, c8, c9].drop 7).take (Tryd.prog.cellsOf 2)) = xs[3]? := hel 3 _ rfl
    have g4 : DataW.trod enc Tryd.prog w base spare held m 2 (([c0, c1, c2, c3, c4, c5, c6, c7, c8, c9].drop 8).take (Tryd.prog.cellsOf 2)) = xs[4]? := hel 4 _ rfl
    have g5 : DataW.trod enc Tryd.prog w base spare held m 2 (([c0, c1, c2, c3, c4, c5, c6, c7, c8, c9].drop 9).take (Tryd.prog.cellsOf 2)) = xs[5]? := hel 5 _ rfl
    rw [cells_n3] at g0
    rw [cells_b3] at g1
    rw [cells_n1] at g2 g3 g4 g5
    rw [List.getElem?_eq_getElem (by omega)] at g0 g1 g2 g3 g4 g5
    obtain ⟨e0, e1, e2, rfl, rfl, rfl, r0, r1, r2⟩ := ints3 g0
    obtain ⟨b0, b1, b2, rfl, rfl, rfl⟩ := bools3 g1
    obtain ⟨z2, rfl, k2⟩ := int1 g2
    obtain ⟨z3, rfl, k3⟩ := int1 g3
    obtain ⟨z4, rfl, k4⟩ := int1 g4
    obtain ⟨z5, rfl, k5⟩ := int1 g5
    exact ⟨⟨e0, e1, e2, b0, b1, b2, z2, z3, z4, z5⟩, ⟨r0, r1, r2, k2, k3, k4, k5⟩, rfl⟩

set_option maxRecDepth 100000 in
theorem elem_tk {n : Nat} {cs : List Value} {x : DataW H × List MemPlace} (hlen : cs.length = 8) (h : DataW.trod enc Tryd.prog w base spare held n 39 cs = some x) : ∃ t : Tk, cs = tl t := by
  obtain ⟨xs, m, _, _, _, hl, hel⟩ := DataW.trod_struct Tryd.underlying39 h
  have hxs : xs.length = 4 := hl
  match cs, hlen with
  | [c0, c1, c2, c3, c4, c5, c6, c7], _ =>
    have g0 : DataW.trod enc Tryd.prog w base spare held m 2 (([c0, c1, c2, c3, c4, c5, c6, c7].drop 0).take (Tryd.prog.cellsOf 2)) = xs[0]? := hel 0 _ rfl
    have g1 : DataW.trod enc Tryd.prog w base spare held m 2 (([c0, c1, c2, c3, c4, c5, c6, c7].drop 1).take (Tryd.prog.cellsOf 2)) = xs[1]? := hel 1 _ rfl
    have g2 : DataW.trod enc Tryd.prog w base spare held m 22 (([c0, c1, c2, c3, c4, c5, c6, c7].drop 2).take (Tryd.prog.cellsOf 22)) = xs[2]? := hel 2 _ rfl
    have g3 : DataW.trod enc Tryd.prog w base spare held m 23 (([c0, c1, c2, c3, c4, c5, c6, c7].drop 5).take (Tryd.prog.cellsOf 23)) = xs[3]? := hel 3 _ rfl
    rw [cells_n3] at g2
    rw [cells_b3] at g3
    rw [cells_n1] at g0 g1
    rw [List.getElem?_eq_getElem (by omega)] at g0 g1 g2 g3
    obtain ⟨z0, rfl, _⟩ := int1 g0
    obtain ⟨z1, rfl, _⟩ := int1 g1
    obtain ⟨e0, e1, e2, rfl, rfl, rfl, _, _, _⟩ := ints3 g2
    obtain ⟨b0, b1, b2, rfl, rfl, rfl⟩ := bools3 g3
    exact ⟨⟨z0, z1, e0, e1, e2, b0, b1, b2⟩, rfl⟩

theorem okWide_air {r : Reach} {b0 : Nat} {v : Value} (hv : Value.okWide Tryd.prog w r b0 25 v) : ∃ cs : Array Value, v = .agg cs ∧ cs.size = 10 := by
  simp only [Value.okWide, Tryd.underlying25] at hv
  obtain ⟨cs, h1, h2, _⟩ := hv
  exact ⟨cs, h1, h2.trans cells_air⟩
theorem air_open {r : Reach} {b0 : Nat} {v : Value} {d : DataW H} {p : List MemPlace} (hv : Value.okWide Tryd.prog w r b0 25 v) (h : DataW.Trod enc Tryd.prog w base spare held 25 v d p) : ∃ a : Ai, AI a ∧ v = av a := by
  obtain ⟨cs, rfl, hs⟩ := okWide_air hv
  obtain ⟨fuel, hf⟩ := h
  obtain ⟨a, ha, e⟩ := elem_air (cs := cs.toList) (by simpa using hs) hf
  exact ⟨a, ha, by rw [show cs = (al a).toArray from Array.toList_inj.1 e]; rfl⟩

theorem tl_val (t : Tk) : (tl t)[0]? = some (.int .i64 t.move) := rfl
theorem tl_len (t : Tk) : (tl t).length = 8 := rfl
set_option maxRecDepth 100000 in
theorem ticks_came {r : Reach} {b0 : Nat} {v : Value} {d : DataW H} {p : List MemPlace} (hv : Value.okWide Tryd.prog w r b0 26 v) (h : DataW.Trod enc Tryd.prog w base spare held 26 v d p) :
    ∃ (ba : Option Addr) (cap : Nat) (l : List Tk), v = .slice ba l.length cap ∧ CameTk w ba cap l := by
  obtain ⟨a0, len, cap, rfl⟩ := okWide_slice Tryd.underlying26 hv
  obtain ⟨fuel, hf⟩ := h
  rcases Go.Deep.open_slice Tryd.underlying26 hf with ⟨hcs, hx⟩ | ⟨a, len', cap', m, n, D, Pl, hcs, _, hl, hm, hmm, hx, hi⟩
  · simp [Value.cells] at hcs
    obtain ⟨rfl, rfl, rfl⟩ := hcs
    exact ⟨none, 0, [], rfl, Nat.le_refl _, Nat.zero_le _, fun k => absurd k (by decide)⟩
  · simp [Value.cells] at hcs
    obtain ⟨rfl, rfl, rfl⟩ := hcs
    have hlm : len ≤ m := by rw [hmm]; split <;> omega
    have H1 : ∀ i, i < len → ∃ f : Tk, ∀ k u, (tl f)[k]? = some u → w.cell? (a.add (i * 8 + k)) = some u := fun i hlt => by
      obtain ⟨cs', hc, ht'⟩ := hi i (by omega)
      rw [cells_tk] at hc
      obtain ⟨_, hcl, hat⟩ := World.cells?_some hc
      obtain ⟨f, rfl⟩ := elem_tk hcl ht'
      refine ⟨f, fun k u hu => ?_⟩
      have hk : k < 8 := by
        have := (List.getElem?_eq_some_iff.1 hu).1
        rwa [tl_len] at this
      rw [← Go.Deep.add_add, hat k hk]
      exact hu
    obtain ⟨g, hg⟩ : ∃ g : Nat → Tk, ∀ i, i < len → ∀ k u, (tl (g i))[k]? = some u → w.cell? (a.add (i * 8 + k)) = some u :=
      ⟨fun i => if h : i < len then Classical.choose (H1 i h) else tk0, fun i h => by
        simp only [dif_pos h]
        exact Classical.choose_spec (H1 i h)⟩
    have hlen : ((List.range len).map g).length = len := by simp
    have hget : ∀ j, j < len → ((List.range len).map g).getD j tk0 = g j := fun j hj => by simp [List.getD, hj]
    refine ⟨some a, cap, (List.range len).map g, by rw [hlen], ⟨by rw [hlen]; exact hl, hm, fun h0 => ?_⟩⟩
    rw [hlen] at h0
    obtain ⟨b, off, spot⟩ := a
    have hspot : spot = none := by simpa [Addr.add] using World.cell?_spot (hg 0 h0 0 _ (tl_val (g 0)))
    subst hspot
    refine ⟨b, off, rfl, fun j hj k u hu => ?_⟩
    rw [hlen] at hj
    rw [hget j hj] at hu
    have := hg j hj k u hu
    rw [Go.WideShapes.add_plain] at this
    rw [Nat.add_assoc]
    exact this
end
end Go.Proofs.YtkjkmnclnedfhaaDoor
