/- What the walks say of memory: blocks of two cells that the walk made, and worlds that differ above what was there (as in XWideA, with no program's calls). -/
import Derived.Test.YtmacbcbomdnppaaProg
import Derived.WalkKit
import Derived.WalkSpells
import Derived.WalkLawsBesides
import Derived.Lib.Hide
import Derived.Outline
import Derived.Deep.QuietTactic
import Derived.BigQuiet
import Derived.Below
import Derived.Deep.RegionHeld3
namespace Go.Proofs.Ytmacbcbomdnppaa
open Go.RowKit

theorem bcell {W w1 : World} (hb : Below W.heap.size W w1) : (∀ b o, b < W.heap.size → w1.cell? ⟨b, o, none⟩ = W.cell? ⟨b, o, none⟩) ∧ (∀ b o, b < W.heap.size → w1.frozen? ⟨b, o, none⟩ = W.frozen? ⟨b, o, none⟩) :=
  ⟨fun b o h => hb.cell (p := ⟨b, o, none⟩) h, fun b o h => hb.frozen (p := ⟨b, o, none⟩) h⟩

theorem below1 (w : World) (o : Obj) : Below w.heap.size w (w.alloc o) := (Below.refl _ _).alloc (Nat.le_refl _) o
theorem below2 (w : World) (o p : Obj) : Below w.heap.size w ((w.alloc o).alloc p) := (below1 w o).alloc (by simp) p
theorem below3 (w : World) (o p q : Obj) : Below w.heap.size w (((w.alloc o).alloc p).alloc q) := (below2 w o p).alloc (by simp; omega) q

theorem belowT {a b c : World} (h : Below a.heap.size a b) (k : Below b.heap.size b c) : Below a.heap.size a c := h.trans (k.mono h.size)
theorem belowN {B : Nat} {a w : World} (h : Below B a w) : ∀ n, Below B a (w.drewN n)
  | 0 => h
  | n + 1 => (belowN h n).drew

theorem keepc {W w1 : World} (hb : Below W.heap.size W w1) {b o : Nat} {v : Value} (h : W.cell? ⟨b, o, none⟩ = some v) : w1.cell? ⟨b, o, none⟩ = some v := by
  have := World.block_lt_of_cell? W _ h
  rw [hb.cell (p := ⟨b, o, none⟩) this]; exact h
theorem keepf {W w1 : World} (hb : Below W.heap.size W w1) {b o : Nat} {v : Value} (h : W.cell? ⟨b, o, none⟩ = some v) (f : W.frozen? ⟨b, o, none⟩ = false) : w1.frozen? ⟨b, o, none⟩ = false := by
  have := World.block_lt_of_cell? W _ h
  rw [hb.frozen (p := ⟨b, o, none⟩) this]; exact f

/-- A block of two cells that the walk made: what it holds, and that it may be written. -/
structure Own2 (w : World) (b : Nat) (u v : Value) : Prop where
  c0 : w.cell? ⟨b, 0, none⟩ = some u
  c1 : w.cell? ⟨b, 1, none⟩ = some v
  f0 : w.frozen? ⟨b, 0, none⟩ = false
  f1 : w.frozen? ⟨b, 1, none⟩ = false
theorem Own2.lt {w : World} {b : Nat} {u v : Value} (h : Own2 w b u v) : b < w.heap.size := World.block_lt_of_cell? w _ h.c0
theorem Own2.keep {W w1 : World} {b : Nat} {u v : Value} (h : Own2 W b u v) (hb : Below W.heap.size W w1) : Own2 w1 b u v :=
  ⟨keepc hb h.c0, keepc hb h.c1, keepf hb h.c0 h.f0, keepf hb h.c1 h.f1⟩
theorem Own2.more {w : World} {b : Nat} {u v : Value} (h : Own2 w b u v) (o : Obj) : Own2 (w.alloc o) b u v := h.keep (below1 w o)
theorem Own2.drew {w : World} {b : Nat} {u v : Value} (h : Own2 w b u v) : Own2 w.drew b u v := ⟨h.c0, h.c1, h.f0, h.f1⟩
theorem own2 (w : World) (u v : Value) (t : TypeId) : Own2 (w.alloc (.cells #[u, v] t)) w.heap.size u v :=
  ⟨by simp, by simp, by simp, by simp⟩

theorem heap1 (w : World) (o : Obj) : (w.alloc o).heap.size = w.heap.size + 1 := by simp
theorem own2b (w : World) (o : Obj) (u v : Value) (t : TypeId) : Own2 ((w.alloc o).alloc (.cells #[u, v] t)) (w.heap.size + 1) u v := heap1 w o ▸ own2 (w.alloc o) u v t
theorem own2c (w : World) (o p : Obj) (u v : Value) (t : TypeId) : Own2 (((w.alloc o).alloc p).alloc (.cells #[u, v] t)) (w.heap.size + 1 + 1) u v := by
  have h := own2b (w.alloc o) p u v t
  rw [heap1] at h; exact h

theorem keeps {w : World} {b c o p : Nat} {u v : Value} (hn : b ≠ c) (h : w.cell? ⟨c, p, none⟩ = some v) : (w.setCell ⟨b, o, none⟩ u).cell? ⟨c, p, none⟩ = some v := by
  rw [World.cell?_setCell_far _ _ _ _ hn]; exact h

theorem Own2.other {w : World} {b c : Nat} {u v : Value} (h : Own2 w b u v) (hn : c ≠ b) (o : Nat) (z : Value) : Own2 (w.setCell ⟨c, o, none⟩ z) b u v :=
  ⟨keeps hn h.c0, keeps hn h.c1, by rw [World.frozen?_setCell]; exact h.f0, by rw [World.frozen?_setCell]; exact h.f1⟩

theorem Own2.set {w : World} {b : Nat} {u v : Value} (h : Own2 w b u v) (y z : Value) : Own2 ((w.setCell ⟨b, 0, none⟩ y).setCell ⟨b, 1, none⟩ z) b y z := by
  have e0 : (w.setCell ⟨b, 0, none⟩ y).cell? ⟨b, 0, none⟩ = some y := World.cell?_setCell_same _ _ _ h.c0
  have e1 : (w.setCell ⟨b, 0, none⟩ y).cell? ⟨b, 1, none⟩ = some v := by rw [World.cell?_setCell_other _ _ _ _ (by simp)]; exact h.c1
  exact ⟨by rw [World.cell?_setCell_other _ _ _ _ (by simp)]; exact e0, World.cell?_setCell_same _ _ _ e1, by rw [World.frozen?_setCell, World.frozen?_setCell]; exact h.f0, by rw [World.frozen?_setCell, World.frozen?_setCell]; exact h.f1⟩

end Go.Proofs.Ytmacbcbomdnppaa
