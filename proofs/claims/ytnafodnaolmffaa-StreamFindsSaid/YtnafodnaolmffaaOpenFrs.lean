/- Frames as an argument, []api.Frame: opened. -/
import Derived.Test.YtnafodnaolmffaaFrs
import Derived.Test.YtnafodnaolmffaaPost
import Derived.OpenShut
import Derived.Deep.Slices
import Derived.Lib.SmallJoins
namespace Go.Proofs.Ytnafodnaolmffaa
open Go.Joins Go.ChangeShapes Go.WideShapes Go.RowKit

section
variable {H : Type} {enc : TypeId × Value → H} {w : World} {base : Nat} {spare : Nat → Bool} {held : Bool}
theorem cells_fr : Try.prog.cellsOf 35 = 4 := by kernel_rfl
theorem cells_int3 : Try.prog.cellsOf 3 = 1 := by kernel_rfl
theorem cells_bool4 : Try.prog.cellsOf 4 = 1 := by kernel_rfl
theorem cells_i642 : Try.prog.cellsOf 2 = 1 := by kernel_rfl

set_option maxRecDepth 100000 in
theorem elem_open {n : Nat} {cs : List Value} {x : DataW H × List MemPlace} (hl : cs.length = 4) (h : DataW.trod enc Try.prog w base spare held n 35 cs = some x) :
    ∃ f : Fr, cs = fc f ∧ -9223372036854775808 ≤ f.val ∧ f.val ≤ 9223372036854775807 := by
  match cs, hl with
  | [c0, c1, c2, c3], _ =>
    obtain ⟨xs, n', _, _, _, hx, hg⟩ := DataW.trod_struct Try.underlying35 h
    match xs, hx with
    | [y0, y1, y2, y3], _ =>
      have g0 : DataW.trod enc Try.prog w base spare held n' 3 [c0] = some y0 := by simpa [cells_int3] using hg 0 _ rfl
      have g1 : DataW.trod enc Try.prog w base spare held n' 3 [c1] = some y1 := by simpa [cells_int3] using hg 1 _ rfl
      have g2 : DataW.trod enc Try.prog w base spare held n' 4 [c2] = some y2 := by simpa [cells_bool4] using hg 2 _ rfl
      have g3 : DataW.trod enc Try.prog w base spare held n' 2 [c3] = some y3 := by simpa [cells_i642] using hg 3 _ rfl
      obtain ⟨x0, e0, _, _⟩ := DataW.trod_int Try.underlying3 g0
      obtain ⟨x1, e1, _, _⟩ := DataW.trod_int Try.underlying3 g1
      obtain ⟨x2, e2, _⟩ := DataW.trod_bool Try.underlying4 g2
      obtain ⟨x3, e3, _, wf⟩ := DataW.trod_int Try.underlying2 g3
      simp at e0 e1 e2 e3
      subst e0 e1 e2 e3
      refine ⟨⟨x0, x1, x2, x3⟩, rfl, ?_⟩
      exact rng_i64 wf

set_option maxRecDepth 100000 in
theorem frames_came {r : Reach} {b0 : Nat} {v : Value} {d : DataW H} {p : List MemPlace} (hv : Value.okWide Try.prog w r b0 24 v) (h : DataW.Trod enc Try.prog w base spare held 24 v d p) :
    ∃ (ba : Option Addr) (cap : Nat) (l : List Fr), v = .slice ba l.length cap ∧ CameFr w ba cap l ∧ ∀ j, j < l.length → -9223372036854775808 ≤ (l.getD j fr0).val ∧ (l.getD j fr0).val ≤ 9223372036854775807 := by
  obtain ⟨a0, len, cap, rfl⟩ := okWide_slice Try.underlying24 hv
  obtain ⟨fuel, hf⟩ := h
  rcases Go.Deep.open_slice Try.underlying24 hf with ⟨hcs, hx⟩ | ⟨a, len', cap', m, n, D, Pl, hcs, _, hl, hm, hmm, hx, hi⟩
  · simp [Value.cells] at hcs
    obtain ⟨rfl, rfl, rfl⟩ := hcs
    exact ⟨none, 0, [], rfl, ⟨Nat.le_refl _, Nat.zero_le _, fun k => absurd k (by decide)⟩, fun j hj => absurd hj (Nat.not_lt_zero j)⟩
  · simp [Value.cells] at hcs
    obtain ⟨rfl, rfl, rfl⟩ := hcs
    have hlm : len ≤ m := by rw [hmm]; split <;> omega
    have H1 : ∀ i, i < len → ∃ f : Fr, (∀ k u, (fc f)[k]? = some u → w.cell? (a.add (i * 4 + k)) = some u) ∧ -9223372036854775808 ≤ f.val ∧ f.val ≤ 9223372036854775807 := fun i hlt => by
      obtain ⟨cs', hc, ht'⟩ := hi i (by omega)
      rw [cells_fr] at hc
      obtain ⟨_, hcl, hat⟩ := World.cells?_some hc
      obtain ⟨f, rfl, hw⟩ := elem_open hcl ht'
      refine ⟨f, fun k u hu => ?_, hw⟩
      have hk : k < 4 := (List.getElem?_eq_some_iff.1 hu).1
      rw [← Go.Deep.add_add, hat k hk]
      exact hu
    obtain ⟨g, hg⟩ : ∃ g : Nat → Fr, ∀ i, i < len → (∀ k u, (fc (g i))[k]? = some u → w.cell? (a.add (i * 4 + k)) = some u) ∧ -9223372036854775808 ≤ (g i).val ∧ (g i).val ≤ 9223372036854775807 :=
      ⟨fun i => if h : i < len then Classical.choose (H1 i h) else fr0, fun i h => by
        simp only [dif_pos h]
        exact Classical.choose_spec (H1 i h)⟩
    have hlen : ((List.range len).map g).length = len := by simp
    have hget : ∀ j, j < len → ((List.range len).map g).getD j fr0 = g j := fun j hj => by simp [List.getD, hj]
    refine ⟨some a, cap, (List.range len).map g, by rw [hlen], ⟨by rw [hlen]; exact hl, hm, fun h0 => ?_⟩, fun j hj => ?_⟩
    · rw [hlen] at h0
      obtain ⟨b, off, spot⟩ := a
      have hspot : spot = none := by simpa [Addr.add] using World.cell?_spot ((hg 0 h0).1 0 _ rfl)
      subst hspot
      refine ⟨b, off, rfl, fun j hj k u hu => ?_⟩
      rw [hlen] at hj
      rw [hget j hj] at hu
      have := (hg j hj).1 k u hu
      rw [Go.WideShapes.add_plain] at this
      rw [Nat.add_assoc]
      exact this
    · rw [hlen] at hj
      rw [hget j hj]
      exact (hg j hj).2
end
end Go.Proofs.Ytnafodnaolmffaa
