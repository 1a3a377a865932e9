/- The more has refuted, the fewer are alive: plain; blocks of 22 cells in a drawn region. -/
import Derived.Test.YtaooigldchojcaaDoorHypBank
namespace Go.Proofs.YtaooigldchojcaaDoor
open Go.RowKit

namespace Hyp
theorem alive_fewer {rf : List Bool} {f : Nat → Bool} {x : Int} (hs : ∀ p, p < 15 → rf.getD p false = true → f p = true) (n : Nat) (hn : n < 22) (h : (aliveL (listB f) x).getD n false = true) : (aliveL rf x).getD n false = true := by
  rw [aliveL_at _ _ n hn] at *
  unfold aliveB at *
  rw [Bool.and_eq_true, List.all_eq_true] at *
  refine ⟨h.1, fun p hp => ?_⟩
  have h2 := h.2 p hp
  rw [listB_at _ p (List.mem_range.1 hp)] at h2
  cases e : rf.getD p false
  · rfl
  · rw [hs p (List.mem_range.1 hp) e] at h2
    exact h2
theorem any_fewer {xs ys : List Bool} (h : ∀ n, n < 22 → ys.getD n false = true → xs.getD n false = true) (hy : any ys = true) : any xs = true := by
  obtain ⟨n, hn, ha⟩ := (any_iff ys).1 hy
  exact (any_iff xs).2 ⟨n, hn, h n hn ha⟩
theorem exc_fewer {xs ys : List Bool} (h : ∀ n, n < 22 → ys.getD n false = true → xs.getD n false = true) (hy : any ys = true) : Sub.within (exc xs) (exc ys) = true := by
  rw [within_test]
  intro i hi hb
  rw [exc_bit hy i hi]
  exact fun n hn ha => (exc_bit (any_fewer h hy) i hi).1 hb n hn (h n hn ha)
theorem known_in {rf : List Bool} {x : Int} (hy : any (aliveL rf x) = true) : Sub.within (Sub.low x) (exc (aliveL rf x)) = true := by
  rw [within_test]
  intro i hi hb
  rw [exc_bit hy i hi]
  intro n hn ha
  rw [aliveL_at _ _ n hn] at ha
  unfold aliveB at ha
  rw [Bool.and_eq_true, within_test] at ha
  exact ha.1 i hi hb
theorem blm_all {al : List Bool} (hy : any al = true) (i : Nat) (hi : i < 6) : (((blm (livN al 22) (i : Int) : Nat) : Int) == ((livN al 22).length : Int)) = hasI (exc al : Int) (i : Int) := by
  rw [hasI_nat _ i hi, Sub.low_of _ (exc_lt al), Sub.has_bit]
  have hle := blm_le (livN al 22) (i : Int)
  rw [Bool.eq_iff_iff, exc_bit hy i hi, beq_iff_eq]
  have key : blm (livN al 22) (i : Int) = (livN al 22).length ↔ ∀ h ∈ livN al 22, hasI (h : Int) (i : Int) = true := by
    unfold blm
    exact List.length_filter_eq_length_iff
  rw [show (((blm (livN al 22) (i : Int) : Nat) : Int) = ((livN al 22).length : Int)) ↔ blm (livN al 22) (i : Int) = (livN al 22).length from ⟨fun h => by omega, fun h => by omega⟩, key]
  have hb : ∀ n, n < 22 → (hasI (setN n : Int) (i : Int) = true ↔ (setN n).testBit i = true) := fun n _ => by
    rw [hasI_nat _ i hi, low_set, Sub.has_bit]
  constructor
  · intro h n hn ha
    exact (hb n hn).1 (h _ (mem_liv.2 ⟨n, hn, ha, rfl⟩))
  · intro h s m
    obtain ⟨n, hn, ha, rfl⟩ := mem_liv.1 m
    exact (hb n hn).2 (h n hn ha)
theorem any_len (al : List Bool) : decide ((0 : Int) < ((livN al 22).length : Int)) = any al := by
  unfold any
  exact decide_eq_decide.2 ⟨fun h => by omega, fun h => by omega⟩
end Hyp

/-- a block of 22 cells that may be written -/
def Th (w : World) (g : Nat) : Prop := w.there g 0 22
theorem Th.lt {w : World} {g : Nat} (h : Th w g) : g < w.heap.size := by
  obtain ⟨h1, _⟩ := h 0 (by decide)
  cases e : w.cell? ⟨g, 0 + 0, none⟩ with
  | none => rw [e] at h1; cases h1
  | some v => exact World.block_lt_of_cell? w _ e
theorem Th.keep {w w' : World} {g : Nat} (h : Th w g) (hb : Below w.heap.size w w') : Th w' g := fun j hj => by
  obtain ⟨h1, h2⟩ := h j hj
  cases e : w.cell? ⟨g, 0 + j, none⟩ with
  | none => rw [e] at h1; cases h1
  | some v => exact ⟨by rw [keepc hb e]; rfl, keepf hb e h2⟩
theorem Th.new (w : World) (l : List Value) (hl : l.length = 22) (t : TypeId) : Th (w.alloc (.cells l.toArray t)) w.heap.size := fun j hj => by
  have h := cells_alloc w l t j (some l[j]) (by rw [List.getElem?_map, List.getElem?_eq_getElem (by omega)]; rfl)
  obtain ⟨⟨z, hz, _⟩, hf⟩ := h
  rw [Nat.zero_add]
  exact ⟨by rw [hz]; rfl, hf⟩
/-- a whole array in a block -/
def Rg (w : World) (g : Nat) (c : Array Value) : Prop := w.rangeAt g 0 c.toList
theorem Rg.keep {w w' : World} {g : Nat} {c : Array Value} (h : Rg w g c) (hb : Below w.heap.size w w') : Rg w' g c := range_keep h hb
/-- a whole array stored -/
theorem oper_put {o : Oper} {a : Act} {w : World} {K : Act → World → Prop} {Q : Exit → Act → World → Prop} {x y : Operand} (ho : o.op = .store 26 x y) {g : Nat} {c : Array Value} {W0 : World}
    (hx : a.eval x = .pointer (some ⟨g, 0, none⟩)) (hy : a.eval y = .agg c) (T : Th w g) (hg : W0.heap.size ≤ g) (hB : Below W0.heap.size W0 w) (hi : (Tryd.prog.info? 26).map (·.size) = some c.size) (h1 : c.all (·.oneCell') = true)
    (h : ∀ w', Rg w' g c → (∀ k, Th w k → Th w' k) → (∀ k d, k ≠ g → Rg w k d → Rg w' k d) → Below W0.heap.size W0 w' → K (a.put o.dst undef) w') : Oper.wp Tryd.prog o a w K Q := by
  have hz : c.size = 22 := by
    have := size22
    rw [hi] at this
    injection this
  have T' : w.there g 0 c.size := by rw [hz]; exact T
  refine wp_store_mid _ x y ho g 0 c hx hy T' hi h1 ?_
  refine h _ (World.rangeAt_setCells_same w g 0 c.toList (by rw [Array.length_toList]; exact T')) (fun k t => World.there_setCells t g 0 c.toList) (fun k d hk r => World.rangeAt_setCells_apart r g 0 c.toList (Or.inl hk)) (below_setCells hg c.toList 0 _ hB)
end Go.Proofs.YtaooigldchojcaaDoor
