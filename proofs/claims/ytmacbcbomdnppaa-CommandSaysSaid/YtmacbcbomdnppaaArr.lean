/- A block of numbers of 16 bits that the walk made: what it holds, and that it may be written. -/
import Derived.Test.YtmacbcbomdnppaaCrcRefA
namespace Go.Proofs.Ytmacbcbomdnppaa
open Go.RowKit

def Arr (w : World) (b : Nat) (xs : List (BitVec 16)) : Prop := ∀ j, j < xs.length → w.cell? ⟨b, j, none⟩ = some (.int .u16 ((xs.getD j 0#16).toNat : Int)) ∧ w.frozen? ⟨b, j, none⟩ = false
theorem Arr.keep {w w' : World} {b : Nat} {xs : List (BitVec 16)} (h : Arr w b xs) (hb : Below w.heap.size w w') : Arr w' b xs := fun j hj => ⟨keepc hb (h j hj).1, keepf hb (h j hj).1 (h j hj).2⟩
theorem Arr.lt {w : World} {b : Nat} {xs : List (BitVec 16)} (h : Arr w b xs) (h0 : 0 < xs.length) : b < w.heap.size := World.block_lt_of_cell? w _ (h 0 h0).1
theorem Arr.drew {w : World} {b : Nat} {xs : List (BitVec 16)} (h : Arr w b xs) : Arr w.drew b xs := h
theorem Arr.other {w : World} {b c : Nat} {xs : List (BitVec 16)} (h : Arr w b xs) (hn : c ≠ b) (o : Nat) (z : Value) : Arr (w.setCell ⟨c, o, none⟩ z) b xs := fun j hj => ⟨keeps hn (h j hj).1, by rw [World.frozen?_setCell]; exact (h j hj).2⟩
theorem Arr.set {w : World} {b : Nat} {xs : List (BitVec 16)} (h : Arr w b xs) (i : Nat) (y : BitVec 16) : Arr (w.setCell ⟨b, i, none⟩ (.int .u16 (y.toNat : Int))) b (xs.set i y) := by
  intro j hj
  rw [List.length_set] at hj
  obtain ⟨h1, h2⟩ := h j hj
  refine ⟨?_, by rw [World.frozen?_setCell]; exact h2⟩
  by_cases e : j = i
  · subst e
    rw [World.cell?_setCell_same _ _ _ h1]
    simp [List.getD, hj]
  · rw [World.cell?_setCell_other _ _ _ _ (by intro g; injection g with _ g; exact e g.symm), h1]
    simp [List.getD, Ne.symm e]
theorem arr_alloc (w : World) (xs : List (BitVec 16)) (t : TypeId) : Arr (w.alloc (.cells (xs.map fun x => Value.int .u16 (x.toNat : Int)).toArray t)) w.heap.size xs := by
  intro j hj
  constructor
  · simp [List.getD, hj]
  · simp

end Go.Proofs.Ytmacbcbomdnppaa
