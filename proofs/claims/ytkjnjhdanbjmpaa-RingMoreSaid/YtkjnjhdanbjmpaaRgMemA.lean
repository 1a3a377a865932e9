
/- Has, Members, Count of the document's own answers for layer 11. -/
import Derived.Test.YtkjnjhdanbjmpaaSub
import Derived.Test.YtkjnjhdanbjmpaaInts
import Derived.LoopTactic
namespace Go.Proofs.Ytkjnjhdanbjmpaa
open Go.RowKit

/-- is gyro i in the set x -/
def hasI (x i : Int) : Bool := decide (0 ≤ i) && decide (i < 6) && Sub.has (Sub.low x) i.toNat
theorem hasI_nat (x : Int) (i : Nat) (h : i < 6) : hasI x (i : Int) = Sub.has (Sub.low x) i := by
  unfold hasI
  rw [decide_eq_true (by omega), decide_eq_true (by omega), Int.toNat_natCast]; rfl
theorem bit_eq (x : Int) (n : Nat) (hn : n < 6) : (x / 2 ^ n % 2 == 1) = Sub.has (Sub.low x) n := by
  have h := Sub.has_at x n hn
  cases g : Sub.has (Sub.low x) n
  · have k : ¬ x / 2 ^ n % 2 = 1 := fun k => by rw [h.1 k] at g; cases g
    simpa using k
  · simpa using h.2 g
/-- members, as ints -/
def memI (x : Int) : List Int := (Sub.mem (Sub.low x)).map Int.ofNat
theorem memI_len (x : Int) : (memI x).length = Sub.cnt (Sub.low x) := by unfold memI Sub.cnt; rw [List.length_map]
/-- members below j -/
def upTo (x : Int) (j : Nat) : List Int := ((List.range j).filter (Sub.has (Sub.low x))).map Int.ofNat
theorem upTo_six (x : Int) : upTo x 6 = memI x := rfl
theorem upTo_one (x : Int) (j : Nat) (h : Sub.has (Sub.low x) j = true) : upTo x (j + 1) = upTo x j ++ [(j : Int)] := by
  unfold upTo
  rw [List.range_succ, List.filter_append, List.map_append]
  simp [h]
theorem upTo_same (x : Int) (j : Nat) (h : Sub.has (Sub.low x) j = false) : upTo x (j + 1) = upTo x j := by
  unfold upTo
  rw [List.range_succ, List.filter_append, List.map_append]
  simp [h]
theorem upTo_len (x : Int) (j : Nat) : (upTo x j).length ≤ j := by
  unfold upTo
  rw [List.length_map]
  have := List.length_filter_le (Sub.has (Sub.low x)) (List.range j)
  rw [List.length_range] at this
  exact this

namespace Ref11
end Ref11
end Go.Proofs.Ytkjnjhdanbjmpaa
