/-
  No cell of these rows narrows 'for every input' (looked for: loops, veiled, ifaces, maps, wideKeys, modest, calm, conditions, laid).
  DERIVED. THE GIVEN ROWS OF THIS SEAT. 4 by the template 'for every input the law returns true; each argument reads behind the call as it read before'; 0 by the template 'total and deterministic' (their statements: YtlfpmeflddimfaaTotals.lean).
  GIVEN WITH THE SEED: the statements are not yours to turn. If you find one false, say at which input.
  Laid BY PROGRAM, IN A SANDBOX (cutbox-rows.mjs): the forced cells as the released guide's own fill.sh prints them over the translation 4c47e712b6325e7a… (all of the seat's roots in one cut). By AI agents, Wed Nov 11 2026. No macro, syntax, notation, axiom, sorry.
-/
import Derived.Test.YtlfpmeflddimfaaChecked
import GoSem.Claim
import GoSem.ClaimJoined
import GoSem.ClaimMapViews
import Derived.JoinedTies
import Derived.KernelRfl
namespace Go.Proofs.Ytlfpmeflddimfaa
/- THE CELL 'sum', in the pinned program and in every row, IS THE sha256 OF THE DUMP (.gsa) THAT YtlfpmeflddimfaaProg.lean LOADS. Nothing in Lean hashes anything: it is a label: what it is worth is what the hold of that sum in a sandbox is worth. -/
noncomputable def Try.pinned : Pinned := { name := "ytlfpmeflddimfaa", sum := "4c47e712b6325e7a5a3f5c4befc7cacb17a12e0c076e2ea64aa5f3036cdc9ad2", checked := Try.checked }
namespace Rows
def none {H : Type} : Left H := { results := [], args := [] }

/-- 'teetotumlaw21.CusumSays': WHATEVER THE INPUT: true; the input reads as it did. -/
def cusumSaysSpec : ChangeSpec := { name := "cusumSays", fn := fun _ => fun
  | [d1, d2] => { results := [.lit (.bool true)], args := [d1, d2] }
  | _ => none }
def cusumSaysRow : OpenClaim := { program := "ytlfpmeflddimfaa", sum := "4c47e712b6325e7a5a3f5c4befc7cacb17a12e0c076e2ea64aa5f3036cdc9ad2", func := "teetotum/teetotumlaw21.CusumSays", spec := "cusumSays", apart := false }
def CusumSaysSaid : Prop := cusumSaysRow.holds Try.pinned (OpenSpec.ofChange cusumSaysSpec)

/-- ITS FALSE NEIGHBOUR: 'it returns false'. Refute it at one input. -/
def cusumSaysWrong : ChangeSpec := { name := "cusumSays", fn := fun _ => fun
  | [d1, d2] => { results := [.lit (.bool false)], args := [d1, d2] }
  | _ => none }
def CusumSaysWrongFalsely : Prop := cusumSaysRow.holds Try.pinned (OpenSpec.ofChange cusumSaysWrong)

/-- 'teetotumlaw21.CusumHolds': WHATEVER THE INPUT: true; the input reads as it did. -/
def cusumHoldsSpec : ChangeSpec := { name := "cusumHolds", fn := fun _ => fun
  | [d1, d2] => { results := [.lit (.bool true)], args := [d1, d2] }
  | _ => none }
def cusumHoldsRow : OpenClaim := { program := "ytlfpmeflddimfaa", sum := "4c47e712b6325e7a5a3f5c4befc7cacb17a12e0c076e2ea64aa5f3036cdc9ad2", func := "teetotum/teetotumlaw21.CusumHolds", spec := "cusumHolds", apart := false }
def CusumHoldsSaid : Prop := cusumHoldsRow.holds Try.pinned (OpenSpec.ofChange cusumHoldsSpec)

/-- ITS FALSE NEIGHBOUR: 'it returns false'. Refute it at one input. -/
def cusumHoldsWrong : ChangeSpec := { name := "cusumHolds", fn := fun _ => fun
  | [d1, d2] => { results := [.lit (.bool false)], args := [d1, d2] }
  | _ => none }
def CusumHoldsWrongFalsely : Prop := cusumHoldsRow.holds Try.pinned (OpenSpec.ofChange cusumHoldsWrong)

/-- 'teetotumlaw21.CusumReaches': WHATEVER THE INPUT: true; the input reads as it did. -/
def cusumReachesSpec : ChangeSpec := { name := "cusumReaches", fn := fun _ => fun
  | [d1, d2] => { results := [.lit (.bool true)], args := [d1, d2] }
  | _ => none }
def cusumReachesRow : OpenClaim := { program := "ytlfpmeflddimfaa", sum := "4c47e712b6325e7a5a3f5c4befc7cacb17a12e0c076e2ea64aa5f3036cdc9ad2", func := "teetotum/teetotumlaw21.CusumReaches", spec := "cusumReaches", apart := false }
def CusumReachesSaid : Prop := cusumReachesRow.holds Try.pinned (OpenSpec.ofChange cusumReachesSpec)

/-- ITS FALSE NEIGHBOUR: 'it returns false'. Refute it at one input. -/
def cusumReachesWrong : ChangeSpec := { name := "cusumReaches", fn := fun _ => fun
  | [d1, d2] => { results := [.lit (.bool false)], args := [d1, d2] }
  | _ => none }
def CusumReachesWrongFalsely : Prop := cusumReachesRow.holds Try.pinned (OpenSpec.ofChange cusumReachesWrong)

/-- 'teetotumlaw21.CusumOrder': WHATEVER THE INPUT: true; the input reads as it did. -/
def cusumOrderSpec : ChangeSpec := { name := "cusumOrder", fn := fun _ => fun
  | [d1, d2, d3] => { results := [.lit (.bool true)], args := [d1, d2, d3] }
  | _ => none }
def cusumOrderRow : OpenClaim := { program := "ytlfpmeflddimfaa", sum := "4c47e712b6325e7a5a3f5c4befc7cacb17a12e0c076e2ea64aa5f3036cdc9ad2", func := "teetotum/teetotumlaw21.CusumOrder", spec := "cusumOrder", apart := false }
def CusumOrderSaid : Prop := cusumOrderRow.holds Try.pinned (OpenSpec.ofChange cusumOrderSpec)

/-- ITS FALSE NEIGHBOUR: 'it returns false'. Refute it at one input. -/
def cusumOrderWrong : ChangeSpec := { name := "cusumOrder", fn := fun _ => fun
  | [d1, d2, d3] => { results := [.lit (.bool false)], args := [d1, d2, d3] }
  | _ => none }
def CusumOrderWrongFalsely : Prop := cusumOrderRow.holds Try.pinned (OpenSpec.ofChange cusumOrderWrong)

/- THE SECOND FORM. 'bulk': how many values and letters a reading holds, each counted each time it is reached (what is shared counts as often as it is met; a slice's spare places count too). A statement '..UptoSaid' is the law's where the arguments, and the package variables that the reading takes, are together of bulk at most 1048576: NARROWER than '..Said'. Prove '..Said' where nothing that the law and all that it calls make is longer than what came in: it says more and counts as full. Else prove '..UptoSaid'. A law counts once. -/
mutual
def uptoBulk {H : Type} : DataW H → Nat
  | .lit (.string bytes) => bytes.length + 1
  | .lit _ => 1
  | .nil => 1
  | .ptr d => uptoBulk d + 1
  | .slice elems spare => uptoBulkAll elems + uptoBulkAll spare + 1
  | .agg parts => uptoBulkAll parts + 1
  | .iface _ d => uptoBulk d + 1
  | .map entries => uptoBulkEntries entries + 1
  | .held _ => 1
def uptoBulkAll {H : Type} : List (DataW H) → Nat
  | [] => 0
  | d :: r => uptoBulk d + uptoBulkAll r
def uptoBulkEntries {H : Type} : List (Lit × DataW H) → Nat
  | [] => 0
  | x :: r => uptoBulkEntry x + uptoBulkEntries r
def uptoBulkEntry {H : Type} : Lit × DataW H → Nat
  | (.string bytes, d) => bytes.length + uptoBulk d + 1
  | (_, d) => uptoBulk d + 1
 end
def uptoSmall : (H : Type) → List (DataW H) → Bool := fun _ ds => decide (uptoBulkAll ds ≤ 1048576)
def OpenSpec.upto (s : _root_.Go.ChangeSpec) : _root_.Go.OpenSpec := { _root_.Go.OpenSpec.ofChange s with cond := some uptoSmall }

/-- 'teetotumlaw21.CusumSays', WHERE WHAT IT READS IS OF BULK AT MOST 1048576: true; the input reads as it did. -/
def cusumSaysUptoRow : OpenClaim := { program := "ytlfpmeflddimfaa", sum := "4c47e712b6325e7a5a3f5c4befc7cacb17a12e0c076e2ea64aa5f3036cdc9ad2", func := "teetotum/teetotumlaw21.CusumSays", spec := "cusumSays", apart := false, narrowed := true }
def CusumSaysUptoSaid : Prop := cusumSaysUptoRow.holds Try.pinned (OpenSpec.upto cusumSaysSpec)

/-- 'teetotumlaw21.CusumHolds', WHERE WHAT IT READS IS OF BULK AT MOST 1048576: true; the input reads as it did. -/
def cusumHoldsUptoRow : OpenClaim := { program := "ytlfpmeflddimfaa", sum := "4c47e712b6325e7a5a3f5c4befc7cacb17a12e0c076e2ea64aa5f3036cdc9ad2", func := "teetotum/teetotumlaw21.CusumHolds", spec := "cusumHolds", apart := false, narrowed := true }
def CusumHoldsUptoSaid : Prop := cusumHoldsUptoRow.holds Try.pinned (OpenSpec.upto cusumHoldsSpec)

/-- 'teetotumlaw21.CusumReaches', WHERE WHAT IT READS IS OF BULK AT MOST 1048576: true; the input reads as it did. -/
def cusumReachesUptoRow : OpenClaim := { program := "ytlfpmeflddimfaa", sum := "4c47e712b6325e7a5a3f5c4befc7cacb17a12e0c076e2ea64aa5f3036cdc9ad2", func := "teetotum/teetotumlaw21.CusumReaches", spec := "cusumReaches", apart := false, narrowed := true }
def CusumReachesUptoSaid : Prop := cusumReachesUptoRow.holds Try.pinned (OpenSpec.upto cusumReachesSpec)

/-- 'teetotumlaw21.CusumOrder', WHERE WHAT IT READS IS OF BULK AT MOST 1048576: true; the input reads as it did. -/
def cusumOrderUptoRow : OpenClaim := { program := "ytlfpmeflddimfaa", sum := "4c47e712b6325e7a5a3f5c4befc7cacb17a12e0c076e2ea64aa5f3036cdc9ad2", func := "teetotum/teetotumlaw21.CusumOrder", spec := "cusumOrder", apart := false, narrowed := true }
def CusumOrderUptoSaid : Prop := cusumOrderUptoRow.holds Try.pinned (OpenSpec.upto cusumOrderSpec)

end Rows
end Go.Proofs.Ytlfpmeflddimfaa
