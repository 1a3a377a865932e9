
/- What the landed subset must answer: Own11. Texts of sets. -/
import Derived.Test.YtldbkompebefmaaDoorLtRefB
import Derived.Test.YtldbkompebefmaaDoorPairs
namespace Go.Proofs.YtldbkompebefmaaDoor
open Go.RowKit

/-- a set's text -/
def Sub.txt (m : Nat) : List UInt8 :=
  match Sub.mem m with
  | [] => [45]
  | i :: l => UInt8.ofNat (48 + i) :: l.flatMap fun j => [43, UInt8.ofNat (48 + j)]
def textI (x : Int) : ByteArray := ⟨(Sub.txt (Sub.low x)).toArray⟩
/-- the set of a text -/
def setOf (s : ByteArray) : Option Nat := (List.range 64).find? fun m => Sub.txt m == s.data.toList
def parseI (s : ByteArray) : Int × Int :=
  match setOf s with
  | some m => ((m : Int), 0)
  | none => (0, 3)
def withI (x i : Int) : Int := if 0 ≤ i ∧ i < 6 then bits .or .i64 x (2 ^ i.toNat) else x
def withoutI (x i : Int) : Int := if 0 ≤ i ∧ i < 6 then bits .andNot .i64 x (2 ^ i.toNat) else x
/-- the sets of at most two -/
def hypoNums : List Int := 0 :: ((List.range 6).map fun i => (2 : Int) ^ i) ++ (List.range 6).flatMap fun i => ((List.range 6).filter fun j => decide (i < j)).map fun j => (2 : Int) ^ i + 2 ^ j
def hypoCells : Array Value := (hypoNums.map fun z => Value.int .i64 z).toArray

end Go.Proofs.YtldbkompebefmaaDoor
