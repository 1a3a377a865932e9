
/- Next, Of, Number, Within, Part of the document's own answers for layer 11. -/
import Derived.Test.YtldbkompebefmaaDoorLtRefA
namespace Go.Proofs.YtldbkompebefmaaDoor
open Go.RowKit

/-- those below j of a kind, as ints -/
def below64 (p : Nat → Bool) (j : Nat) : List Int := ((List.range j).filter p).map Int.ofNat
theorem below64_one (p : Nat → Bool) (j : Nat) (h : p j = true) : below64 p (j + 1) = below64 p j ++ [(j : Int)] := by
  unfold below64
  rw [List.range_succ, List.filter_append, List.map_append]
  simp [h]
theorem below64_same (p : Nat → Bool) (j : Nat) (h : p j = false) : below64 p (j + 1) = below64 p j := by
  unfold below64
  rw [List.range_succ, List.filter_append, List.map_append]
  simp [h]
theorem below64_len (p : Nat → Bool) (j : Nat) : (below64 p j).length ≤ j := by
  unfold below64
  rw [List.length_map]
  have := List.length_filter_le p (List.range j)
  rw [List.length_range] at this
  exact this
/-- has n members -/
def ofP (n : Int) (s : Nat) : Bool := decide ((Sub.cnt s : Int) = n)
def ofI (n : Int) : List Int := below64 (ofP n) 64
def partI (x : Int) : List Int := below64 (fun s => Sub.within s (Sub.low x)) 64
/-- the place of m among numbers, from k on -/
def placeI (m : Int) : List Int → Nat → Int
  | [], _ => -1
  | s :: l, k => if s = m then (k : Int) else placeI m l (k + 1)
def numI (x : Int) : Int := placeI (Sub.low x : Int) (ofI (Sub.cnt (Sub.low x) : Int)) 0
/-- the next one from s on -/
def nxtI (n : Nat) : Nat → Nat → Int × Bool
  | 0, _ => (0, false)
  | k + 1, s => if Sub.cnt s = n then ((s : Int), true) else nxtI n k (s + 1)

namespace Ref11
theorem placeI_step (m : Int) (l : List Int) (j : Nat) (hj : j < l.length) : placeI m (l.drop j) j = if l.getD j 0 = m then (j : Int) else placeI m (l.drop (j + 1)) (j + 1) := by
  rw [List.drop_eq_getElem_cons hj]
  simp [placeI, List.getD, hj]

/-- the next one -/
def nextI (x : Int) : Int × Bool := nxtI (Sub.cnt (Sub.low x)) (63 - Sub.low x) (Sub.low x + 1)

end Ref11
end Go.Proofs.YtldbkompebefmaaDoor
