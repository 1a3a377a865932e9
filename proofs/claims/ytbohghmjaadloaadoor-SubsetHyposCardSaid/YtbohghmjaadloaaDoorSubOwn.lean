/- What the landed subset must answer: Own11. Texts of sets. -/
import Derived.Test.YtbohghmjaadloaaDoorSubRefB
import Derived.Test.YtbohghmjaadloaaDoorPairs
namespace Go.Proofs.YtbohghmjaadloaaDoor
open Go.RowKit

/-- a set's text -/
def Sub.txt (m : Nat) : List UInt8 :=
  match Sub.mem m with
  | [] => [45]
  | i :: l => UInt8.ofNat (48 + i) :: l.flatMap fun j => [43, UInt8.ofNat (48 + j)]
def textI (x : Int) : ByteArray := ⟨(Sub.txt (Sub.low x)).toArray⟩
/-- the set of a text -/
def setOf (s : ByteArray) : Option Nat := (List.range 64).find? fun m => Sub.txt m == s.data.toList
def parseI (s : ByteArray) : Int × Int :=
  match setOf s with
  | some m => ((m : Int), 0)
  | none => (0, 3)
def withI (x i : Int) : Int := if 0 ≤ i ∧ i < 6 then bits .or .i64 x (2 ^ i.toNat) else x
def withoutI (x i : Int) : Int := if 0 ≤ i ∧ i < 6 then bits .andNot .i64 x (2 ^ i.toNat) else x
/-- the sets of at most two -/
def hypoNums : List Int := 0 :: ((List.range 6).map fun i => (2 : Int) ^ i) ++ (List.range 6).flatMap fun i => ((List.range 6).filter fun j => decide (i < j)).map fun j => (2 : Int) ^ i + 2 ^ j
def hypoCells : Array Value := (hypoNums.map fun z => Value.int .i64 z).toArray

/-- the landed subset answers so -/
structure Own11 : Prop where
  has : ∀ (x i : Int) (w : World), Calls Tryd.prog 15 #[.int .i64 x, .int .i64 i] w fun e w' => e = .returned (.bool (hasI x i)) ∧ Below w.heap.size w w'
  with_ : ∀ (x i : Int) (w : World), Calls Tryd.prog 13 #[.int .i64 x, .int .i64 i] w fun e w' => e = .returned (.int .i64 (withI x i)) ∧ Below w.heap.size w w'
  without : ∀ (x i : Int) (w : World), Calls Tryd.prog 14 #[.int .i64 x, .int .i64 i] w fun e w' => e = .returned (.int .i64 (withoutI x i)) ∧ Below w.heap.size w w'
  count : ∀ (x : Int) (w : World), Calls Tryd.prog 12 #[.int .i64 x] w fun e w' => e = .returned (.int .i64 (Sub.cnt (Sub.low x) : Int)) ∧ Below w.heap.size w w'
  members : ∀ (x : Int) (w : World), Calls Tryd.prog 27 #[.int .i64 x] w fun e w' => ∃ v, e = .returned v ∧ Ints w.heap.size w w' v (memI x)
  hypos : ∀ (w : World), PairsAt w → Calls Tryd.prog 10 #[] w fun e w' => e = .returned (.agg hypoCells) ∧ Below w.heap.size w w'
  place : ∀ (x : Int) (w : World), PairsAt w → Calls Tryd.prog 11 #[.int .i64 x] w fun e w' => e = .returned (.int .i64 (placeI x hypoNums 0)) ∧ Below w.heap.size w w'
  text : ∀ (x : Int) (w : World), Calls Tryd.prog 9 #[.int .i64 x] w fun e w' => e = .returned (.string (textI x)) ∧ Below w.heap.size w w'
  parse : ∀ (s : ByteArray) (w : World), s.size ≤ 300 → Calls Tryd.prog 8 #[.string s] w fun e w' => e = .returned (.tuple #[.int .i64 (parseI s).1, .int .i64 (parseI s).2]) ∧ Below w.heap.size w w'
  next : ∀ (x : Int) (w : World), Calls Tryd.prog 16 #[.int .i64 x] w fun e w' => e = .returned (.tuple #[.int .i64 (Ref11.nextI x).1, .bool (Ref11.nextI x).2]) ∧ Below w.heap.size w w'
  of : ∀ (n : Int) (w : World), Calls Tryd.prog 19 #[.int .i64 n] w fun e w' => ∃ v, e = .returned v ∧ Ints w.heap.size w w' v (ofI n)
  number : ∀ (x : Int) (w : World), Calls Tryd.prog 21 #[.int .i64 x] w fun e w' => e = .returned (.int .i64 (numI x)) ∧ Below w.heap.size w w'
  within : ∀ (a b : Int) (w : World), Calls Tryd.prog 23 #[.int .i64 a, .int .i64 b] w fun e w' => e = .returned (.bool (Sub.within (Sub.low a) (Sub.low b))) ∧ Below w.heap.size w w'
  part : ∀ (x : Int) (w : World), Calls Tryd.prog 25 #[.int .i64 x] w fun e w' => ∃ v, e = .returned v ∧ Ints w.heap.size w w' v (partI x)

theorem setOf_text (x : Int) : setOf (textI x) = some (Sub.low x) := by
  have h : ∀ m : Fin 64, (List.range 64).find? (fun k => Sub.txt k == Sub.txt m.val) = some m.val := by decide +kernel
  exact h ⟨Sub.low x, Sub.low_lt x⟩
theorem parse_text (x : Int) : parseI (textI x) = ((Sub.low x : Int), 0) := by unfold parseI; rw [setOf_text]
theorem text_size (x : Int) : (textI x).size ≤ 300 := by
  have h : ∀ m : Fin 64, (Sub.txt m.val).length ≤ 300 := by decide +kernel
  have := h ⟨Sub.low x, Sub.low_lt x⟩
  simpa [textI, ByteArray.size] using this
theorem text_of_set {s : ByteArray} {m : Nat} (h : setOf s = some m) : m < 64 ∧ textI (m : Int) = s := by
  have h1 := List.find?_some h
  have h2 := List.mem_range.1 (List.mem_of_find?_eq_some h)
  refine ⟨h2, ?_⟩
  unfold textI
  rw [Sub.low_of m h2]
  have : Sub.txt m = s.data.toList := by simpa using h1
  rw [this]

end Go.Proofs.YtbohghmjaadloaaDoor
