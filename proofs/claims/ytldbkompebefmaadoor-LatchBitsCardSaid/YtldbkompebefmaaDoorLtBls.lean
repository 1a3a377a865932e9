
/- Arrays of bools: by value, and in a block; a whole array loaded in a region's list, guarded or not, and in a drawn region. No program's calls. -/
import Derived.Test.YtldbkompebefmaaDoorLtLanC
import Derived.Test.YtldbkompebefmaaDoorWhole
import Derived.Test.YtldbkompebefmaaDoorYld
import Derived.Test.YtldbkompebefmaaDoorSp
import Derived.Deep.MidRow
namespace Go.Proofs.YtldbkompebefmaaDoor
open Go.RowKit

def bl (al : List Bool) : Array Value := (al.map fun b => Value.bool b).toArray
theorem bl_size (al : List Bool) : (bl al).size = al.length := by simp [bl]
theorem bl_one (al : List Bool) : (bl al).all (·.oneCell') = true := by
  unfold bl
  exact all_oneCell_toArray fun v hv => by
    obtain ⟨z, _, rfl⟩ := List.mem_map.1 hv
    rfl
theorem bl_list (al : List Bool) : (bl al).toList = al.map fun b => Value.bool b := rfl
/-- they lie in a block, from its begin on -/
def ArrB (w : World) (b : Nat) (al : List Bool) : Prop := w.rangeAt b 0 (bl al).toList
theorem ArrB.keep {w w' : World} {b : Nat} {al : List Bool} (h : ArrB w b al) (hb : Below w.heap.size w w') : ArrB w' b al := range_keep h hb
theorem ArrB.new (w : World) (al : List Bool) (t : TypeId) : ArrB (w.alloc (.cells (bl al) t)) w.heap.size al := range_new w (bl al) t
theorem ArrB.at {w : World} {b : Nat} {al : List Bool} (h : ArrB w b al) (n : Nat) (hn : n < al.length) : w.cell? ⟨b, n, none⟩ = some (.bool (al.getD n false)) := by
  have := h n (.bool (al.getD n false)) (by rw [bl_list, List.getElem?_map, List.getD_eq_getElem?_getD, List.getElem?_eq_getElem hn]; rfl)
  rwa [Nat.zero_add] at this
theorem ArrB.lt {w : World} {b : Nat} {al : List Bool} (h : ArrB w b al) (hn : 0 < al.length) : b < w.heap.size := World.block_lt_of_cell? w _ (h.at 0 hn)

theorem size22 : (Tryd.prog.info? 24).map (·.size) = some 22 := by kernel_rfl
theorem info22 {al : List Bool} (h : al.length = 22) : (Tryd.prog.info? 24).map (·.size) = some (bl al).size := by rw [bl_size, h]; exact size22
/-- a place of such an array by value -/
theorem index22q (a0 a1 a2 a3 a4 a5 a6 a7 a8 a9 a10 a11 a12 a13 a14 a15 a16 a17 a18 a19 a20 a21 : Bool) : ∀ j : Nat, j < 22 → ∀ w, (Instr.index 24 (.agg (bl [a0, a1, a2, a3, a4, a5, a6, a7, a8, a9, a10, a11, a12, a13, a14, a15, a16, a17, a18, a19, a20, a21])) (.int .i64 (j : Int))).run Tryd.prog w = .ok (.bool ([a0, a1, a2, a3, a4, a5, a6, a7, a8, a9, a10, a11, a12, a13, a14, a15, a16, a17, a18, a19, a20, a21].getD j false)) w
  | 0, _, _ => by kernel_rfl
  | 1, _, _ => by kernel_rfl
  | 2, _, _ => by kernel_rfl
  | 3, _, _ => by kernel_rfl
  | 4, _, _ => by kernel_rfl
  | 5, _, _ => by kernel_rfl
  | 6, _, _ => by kernel_rfl
  | 7, _, _ => by kernel_rfl
  | 8, _, _ => by kernel_rfl
  | 9, _, _ => by kernel_rfl
  | 10, _, _ => by kernel_rfl
  | 11, _, _ => by kernel_rfl
  | 12, _, _ => by kernel_rfl
  | 13, _, _ => by kernel_rfl
  | 14, _, _ => by kernel_rfl
  | 15, _, _ => by kernel_rfl
  | 16, _, _ => by kernel_rfl
  | 17, _, _ => by kernel_rfl
  | 18, _, _ => by kernel_rfl
  | 19, _, _ => by kernel_rfl
  | 20, _, _ => by kernel_rfl
  | 21, _, _ => by kernel_rfl
  | n + 22, h, _ => absurd h (by omega)
theorem index22 (al : List Bool) (h : al.length = 22) (j : Nat) (hj : j < 22) (w : World) : (Instr.index 24 (.agg (bl al)) (.int .i64 (j : Int))).run Tryd.prog w = .ok (.bool (al.getD j false)) w :=
  match al, h with
  | [a0, a1, a2, a3, a4, a5, a6, a7, a8, a9, a10, a11, a12, a13, a14, a15, a16, a17, a18, a19, a20, a21], _ => index22q a0 a1 a2 a3 a4 a5 a6 a7 a8 a9 a10 a11 a12 a13 a14 a15 a16 a17 a18 a19 a20 a21 j hj w
/-- less is said of where it lies -/
theorem Ints.low {B B' : Nat} {W W0 w : World} {v : Value} {l : List Int} (h : Ints B W0 w v l) (hB : B' ≤ B) (hb : Below B' W W0) : Ints B' W w v l := by
  refine ⟨⟨h.1.1, ?_⟩, hb.trans (h.2.1.mono hB), Nat.le_trans hB h.2.2⟩
  rcases h.1.2 with hn | ⟨g, cap, cur, fz, rfl, h1, rest⟩
  · exact .inl hn
  · exact .inr ⟨g, cap, cur, fz, rfl, Nat.le_trans hB h1, rest⟩
end Go.Proofs.YtldbkompebefmaaDoor
