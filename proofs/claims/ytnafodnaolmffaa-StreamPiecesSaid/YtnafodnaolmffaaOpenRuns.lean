/- Runs of bytes as an argument, [][]byte: opened; read in every later world. No program's calls. -/
import Derived.Test.YtnafodnaolmffaaBufCame
import Derived.Test.YtnafodnaolmffaaPost
import Derived.OpenShut
import Derived.Deep.Slices
import Derived.Lib.SmallJoins
namespace Go.Proofs.Ytnafodnaolmffaa
open Go.Joins Go.ChangeShapes Go.WideShapes Go.RowKit

/-- runs of bytes that came in -/
structure CameRuns (w : World) (ba : Option Addr) (cap : Nat) (ls : List (List UInt8)) : Prop where
  le : ls.length ≤ cap
  max : cap ≤ maxLen
  lies : 0 < ls.length → ∃ b o, ba = some ⟨b, o, none⟩ ∧ ∀ j, j < ls.length → ∃ pa pc, w.cell? ⟨b, o + j, none⟩ = some (.slice pa (ls.getD j []).length pc) ∧ Came w pa pc (ls.getD j [])
theorem CameRuns.keep {w w' : World} {ba : Option Addr} {cap : Nat} {ls : List (List UInt8)} (C : CameRuns w ba cap ls) (hb : Below w.heap.size w w') : CameRuns w' ba cap ls :=
  ⟨C.le, C.max, fun h => by
    obtain ⟨b, o, e, L⟩ := C.lies h
    exact ⟨b, o, e, fun j hj => by obtain ⟨pa, pc, k, D⟩ := L j hj; exact ⟨pa, pc, keepc hb k, D.keep hb⟩⟩⟩

section
variable {H : Type} {enc : TypeId × Value → H} {w : World} {base : Nat} {held : Bool}
set_option maxRecDepth 100000 in
theorem run_cells {n : Nat} {v : Value} {x : DataW H × List MemPlace} (h : DataW.trod enc Try.prog w base (fun _ => true) held n 22 [v] = some x) :
    ∃ (ba : Option Addr) (cap : Nat) (l : List UInt8), v = .slice ba l.length cap ∧ Came w ba cap l := by
  rcases open_ints Try.underlying22 Try.underlying5 cells8 h with ⟨hcs, hx⟩ | ⟨a, len, cap, zs, hcs, _, hl, hm, hz, hx, hcell, hwz⟩
  · simp at hcs
    subst hcs
    exact ⟨none, 0, [], rfl, Nat.le_refl _, Nat.zero_le _, fun _ => ⟨rfl, rfl⟩, fun h => absurd h (by decide)⟩
  · simp at hcs
    subst hcs
    simp only [if_true] at hz
    have hlen : ((zs.take len).map fun n => UInt8.ofNat n.toNat).length = len := by rw [List.length_map, List.length_take]; omega
    refine ⟨some a, cap, (zs.take len).map fun n => UInt8.ofNat n.toNat, by rw [hlen], by rw [hlen]; exact hl, hm, fun h => (by cases h), fun h0 => ?_⟩
    rw [hlen] at h0
    obtain ⟨b, o, rfl, hc⟩ := ints_at hcell (by omega)
    refine ⟨b, o, rfl, fun j hj => ?_⟩
    rw [hlen] at hj
    have hz' : j < zs.length := by omega
    have hw := byte_wf (hwz zs[j] (List.getElem_mem hz'))
    have e : zs.getD j 0 = zs[j] := by simp [List.getD, List.getElem?_eq_getElem hz']
    have g : ((zs.take len).map fun n => UInt8.ofNat n.toNat).getD j 0 = UInt8.ofNat zs[j].toNat := by
      simp [List.getD, hj, hz']
    rw [hc j hz', g, e, byte_of' _ (by omega), Int.toNat_of_nonneg hw.1]

theorem cells_run : Try.prog.cellsOf 22 = 1 := by kernel_rfl

set_option maxRecDepth 100000 in
theorem runs_came {r : Reach} {b0 : Nat} {v : Value} {d : DataW H} {p : List MemPlace} (hv : Value.okWide Try.prog w r b0 32 v) (h : DataW.Trod enc Try.prog w base (fun _ => true) held 32 v d p) :
    ∃ (ba : Option Addr) (cap : Nat) (l : List (List UInt8)), v = .slice ba l.length cap ∧ CameRuns w ba cap l := by
  obtain ⟨a0, len, cap, rfl⟩ := okWide_slice Try.underlying32 hv
  obtain ⟨fuel, hf⟩ := h
  rcases Go.Deep.open_slice1 Try.underlying32 cells_run hf with ⟨hcs, hx⟩ | ⟨a, len', cap', m, n, V, D, Pl, hcs, _, hl, hm, hmm, hx, hi⟩
  · simp [Value.cells] at hcs
    obtain ⟨rfl, rfl, rfl⟩ := hcs
    exact ⟨none, 0, [], rfl, Nat.le_refl _, Nat.zero_le _, fun k => absurd k (by decide)⟩
  · simp [Value.cells] at hcs
    obtain ⟨rfl, rfl, rfl⟩ := hcs
    have hlm : len ≤ m := by rw [hmm]; split <;> omega
    have H1 : ∀ i, i < len → ∃ l : List UInt8, ∃ pa pc, w.cell? (a.add i) = some (.slice pa l.length pc) ∧ Came w pa pc l := fun i hlt => by
      obtain ⟨hc, ht'⟩ := hi i (by omega)
      obtain ⟨pa, pc, l, e, C⟩ := run_cells ht'
      rw [e] at hc
      exact ⟨l, pa, pc, hc, C⟩
    obtain ⟨g, hg⟩ : ∃ g : Nat → List UInt8, ∀ i, i < len → ∃ pa pc, w.cell? (a.add i) = some (.slice pa (g i).length pc) ∧ Came w pa pc (g i) :=
      ⟨fun i => if h : i < len then Classical.choose (H1 i h) else [], fun i h => by
        simp only [dif_pos h]
        exact Classical.choose_spec (H1 i h)⟩
    have hlen : ((List.range len).map g).length = len := by simp
    have hget : ∀ j, j < len → ((List.range len).map g).getD j [] = g j := fun j hj => by simp [List.getD, hj]
    refine ⟨some a, cap, (List.range len).map g, by rw [hlen], by rw [hlen]; exact hl, hm, fun h0 => ?_⟩
    rw [hlen] at h0
    obtain ⟨b, off, spot⟩ := a
    obtain ⟨pa0, pc0, h00, _⟩ := hg 0 h0
    have hspot : spot = none := by simpa [Addr.add] using World.cell?_spot h00
    subst hspot
    refine ⟨b, off, rfl, fun j hj => ?_⟩
    rw [hlen] at hj
    rw [hget j hj]
    have := hg j hj
    rw [Go.WideShapes.add_plain] at this
    exact this
end
end Go.Proofs.Ytnafodnaolmffaa
