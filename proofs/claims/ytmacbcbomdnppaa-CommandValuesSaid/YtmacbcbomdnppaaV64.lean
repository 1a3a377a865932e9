/- Numbers of 64 bits with a sign, as bit vectors: what the walk's own spelling is. No program's calls. -/
import Derived.Test.YtmacbcbomdnppaaMem
import Derived.LoopN
import Derived.Laws.Bits64b
namespace Go.Proofs.Ytmacbcbomdnppaa
open Go.RowKit

theorem w64 (a : Int) : wrap64 a = (BitVec.ofInt 64 a).toInt := by
  rw [BitVec.toInt_ofInt]
  unfold wrap64 Int.bmod
  simp only [Nat.reducePow]
  omega
theorem ofI (x : BitVec 64) : BitVec.ofInt 64 x.toInt = x := BitVec.ofInt_toInt
theorem v_mul (x y : BitVec 64) : wrap64 (x.toInt * y.toInt) = (x * y).toInt := by rw [w64, BitVec.ofInt_mul, ofI, ofI]
theorem v_add (x y : BitVec 64) : wrap64 (x.toInt + y.toInt) = (x + y).toInt := by rw [w64, BitVec.ofInt_add, ofI, ofI]
theorem v_sub (x y : BitVec 64) : wrap64 (x.toInt - y.toInt) = (x - y).toInt := by
  rw [w64]
  congr 1
  apply BitVec.eq_of_toInt_eq
  rw [BitVec.toInt_ofInt, BitVec.toInt_sub]
theorem v_neg (x : BitVec 64) : wrap64 (-x.toInt) = (-x).toInt := by
  rw [w64]
  congr 1
  apply BitVec.eq_of_toInt_eq
  rw [BitVec.toInt_ofInt, BitVec.toInt_neg]
theorem v_of (a : Int) (h0 : -9223372036854775808 ≤ a) (h1 : a ≤ 9223372036854775807) : ∃ x : BitVec 64, a = x.toInt := ⟨BitVec.ofInt 64 a, by rw [← w64]; unfold wrap64; omega⟩
theorem v_rng (x : BitVec 64) : -9223372036854775808 ≤ x.toInt ∧ x.toInt ≤ 9223372036854775807 := by
  have := BitVec.le_toInt x
  have := BitVec.toInt_lt (x := x)
  omega
theorem v_eq (x y : BitVec 64) : (x.toInt == y.toInt) = (x == y) := by
  by_cases h : x = y
  · subst h; simp
  · rw [beq_eq_false_iff_ne.2 h, beq_eq_false_iff_ne]
    exact fun g => h (BitVec.eq_of_toInt_eq g)

theorem ring_probe (a b c d e f g h i : BitVec 64) : a * (e * i - f * h) + b * (f * g - d * i) + c * (d * h - e * g) = d * (h * c - i * b) + e * (i * a - g * c) + f * (g * b - h * a) := by grind

/-- A block of three cells that is only read. -/
structure Has3 (w : World) (b : Nat) (u v z : Value) : Prop where
  c0 : w.cell? ⟨b, 0, none⟩ = some u
  c1 : w.cell? ⟨b, 1, none⟩ = some v
  c2 : w.cell? ⟨b, 2, none⟩ = some z
theorem Has3.keep {W w1 : World} {b : Nat} {u v z : Value} (h : Has3 W b u v z) (hb : Below W.heap.size W w1) : Has3 w1 b u v z := ⟨keepc hb h.c0, keepc hb h.c1, keepc hb h.c2⟩
theorem Has3.more {w : World} {b : Nat} {u v z : Value} (h : Has3 w b u v z) (o : Obj) : Has3 (w.alloc o) b u v z := h.keep (below1 w o)
theorem has3 (w : World) (u v z : Value) (t : TypeId) : Has3 (w.alloc (.cells #[u, v, z] t)) w.heap.size u v z := ⟨by simp, by simp, by simp⟩
theorem has3b (w : World) (o : Obj) (u v z : Value) (t : TypeId) : Has3 ((w.alloc o).alloc (.cells #[u, v, z] t)) (w.heap.size + 1) u v z := heap1 w o ▸ has3 (w.alloc o) u v z t
theorem has3c (w : World) (o p : Obj) (u v z : Value) (t : TypeId) : Has3 (((w.alloc o).alloc p).alloc (.cells #[u, v, z] t)) (w.heap.size + 1 + 1) u v z := by
  have h := has3b (w.alloc o) p u v z t
  rw [heap1] at h; exact h

/-- a block that holds these values -/
def HasL (w : World) (b : Nat) (l : List Value) : Prop := ∀ j, j < l.length → w.cell? ⟨b, j, none⟩ = some (l.getD j (.bool false))
theorem HasL.keep {W w1 : World} {b : Nat} {l : List Value} (h : HasL W b l) (hb : Below W.heap.size W w1) : HasL w1 b l := fun j hj => keepc hb (h j hj)
theorem HasL.set {w : World} {b c : Nat} {l : List Value} (h : HasL w b l) (hn : c ≠ b) (o : Nat) (z : Value) : HasL (w.setCell ⟨c, o, none⟩ z) b l := fun j hj => keeps hn (h j hj)
theorem HasL.at {w : World} {b : Nat} {l : List Value} (h : HasL w b l) (j : Nat) {v : Value} (e : l[j]? = some v) : w.cell? ⟨b, j, none⟩ = some v := by
  obtain ⟨hj, hv⟩ := List.getElem?_eq_some_iff.1 e
  rw [h j hj]
  simp [List.getD, hj, hv]
theorem hasl (w : World) (l : List Value) (t : TypeId) : HasL (w.alloc (.cells l.toArray t)) w.heap.size l := fun j hj => by simp [List.getD, hj]
/-- .. and may be written -/
def OwnL (w : World) (b : Nat) (l : List Value) : Prop := HasL w b l ∧ ∀ j, j < l.length → w.frozen? ⟨b, j, none⟩ = false
theorem OwnL.keep {W w1 : World} {b : Nat} {l : List Value} (h : OwnL W b l) (hb : Below W.heap.size W w1) : OwnL w1 b l := ⟨h.1.keep hb, fun j hj => keepf hb (h.1 j hj) (h.2 j hj)⟩
theorem OwnL.set {w : World} {b : Nat} {l : List Value} (h : OwnL w b l) (i : Nat) (z : Value) : OwnL (w.setCell ⟨b, i, none⟩ z) b (l.set i z) := by
  refine ⟨fun j hj => ?_, fun j hj => ?_⟩
  · rw [List.length_set] at hj
    by_cases e : j = i
    · subst e
      rw [World.cell?_setCell_same _ _ _ (h.1 j hj)]
      simp [List.getD, hj]
    · rw [World.cell?_setCell_other _ _ _ _ (by intro g; injection g with _ g; exact e g.symm), h.1 j hj]
      simp [List.getD, Ne.symm e]
  · rw [List.length_set] at hj
    rw [World.frozen?_setCell]; exact h.2 j hj
theorem ownl (w : World) (l : List Value) (t : TypeId) : OwnL (w.alloc (.cells l.toArray t)) w.heap.size l := ⟨hasl w l t, fun j _ => by simp⟩
theorem OwnL.other {w : World} {b c : Nat} {l : List Value} (h : OwnL w b l) (hn : c ≠ b) (o : Nat) (z : Value) : OwnL (w.setCell ⟨c, o, none⟩ z) b l := ⟨h.1.set hn o z, fun j hj => by rw [World.frozen?_setCell]; exact h.2 j hj⟩
theorem HasL.drew {w : World} {b : Nat} {l : List Value} (h : HasL w b l) : HasL w.drew b l := h
theorem OwnL.drew {w : World} {b : Nat} {l : List Value} (h : OwnL w b l) : OwnL w.drew b l := h

end Go.Proofs.Ytmacbcbomdnppaa
