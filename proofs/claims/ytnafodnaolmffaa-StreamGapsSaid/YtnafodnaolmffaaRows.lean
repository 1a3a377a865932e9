/-
  No cell of these rows narrows 'for every input' (looked for: loops, veiled, ifaces, maps, wideKeys, modest, calm, conditions, laid).
  DERIVED. THE GIVEN ROWS OF THIS SEAT. 4 by the template 'for every input the law returns true; each argument reads behind the call as it read before'; 0 by the template 'total and deterministic' (their statements: YtnafodnaolmffaaTotals.lean).
  GIVEN WITH THE SEED: the statements are not yours to turn. If you find one false, say at which input.
  Laid BY PROGRAM, IN A SANDBOX (cutbox-rows.mjs): the forced cells as the released guide's own fill.sh prints them over the translation 2efbeda51f3c5053… (all of the seat's roots in one cut). By AI agents, Wed Nov 11 2026. No macro, syntax, notation, axiom, sorry.
-/
import Derived.Test.YtnafodnaolmffaaChecked
import GoSem.Claim
import GoSem.ClaimJoined
import GoSem.ClaimMapViews
import Derived.JoinedTies
import Derived.KernelRfl
namespace Go.Proofs.Ytnafodnaolmffaa
/- THE CELL 'sum', in the pinned program and in every row, IS THE sha256 OF THE DUMP (.gsa) THAT YtnafodnaolmffaaProg.lean LOADS. Nothing in Lean hashes anything: it is a label: what it is worth is what the hold of that sum in a sandbox is worth. -/
noncomputable def Try.pinned : Pinned := { name := "ytnafodnaolmffaa", sum := "2efbeda51f3c50539dd6dbeba68fbe0fc4ea5a45e555a9415002ce21c6be600a", checked := Try.checked }
namespace Rows
def none {H : Type} : Left H := { results := [], args := [] }

/-- 'teetotumlaw15.StreamSays': WHATEVER THE INPUT: true; the input reads as it did. -/
def streamSaysSpec : ChangeSpec := { name := "streamSays", fn := fun _ => fun
  | [d1, d2] => { results := [.lit (.bool true)], args := [d1, d2] }
  | _ => none }
def streamSaysRow : OpenClaim := { program := "ytnafodnaolmffaa", sum := "2efbeda51f3c50539dd6dbeba68fbe0fc4ea5a45e555a9415002ce21c6be600a", func := "teetotum/teetotumlaw15.StreamSays", spec := "streamSays", unfollowed := true, recurses := true, apart := false }
def StreamSaysSaid : Prop := streamSaysRow.holds Try.pinned (OpenSpec.ofChange streamSaysSpec)

/-- ITS FALSE NEIGHBOUR: 'it returns false'. Refute it at one input. -/
def streamSaysWrong : ChangeSpec := { name := "streamSays", fn := fun _ => fun
  | [d1, d2] => { results := [.lit (.bool false)], args := [d1, d2] }
  | _ => none }
def StreamSaysWrongFalsely : Prop := streamSaysRow.holds Try.pinned (OpenSpec.ofChange streamSaysWrong)

/-- 'teetotumlaw15.StreamPieces': WHATEVER THE INPUT: true; the input reads as it did. -/
def streamPiecesSpec : ChangeSpec := { name := "streamPieces", fn := fun _ => fun
  | [d] => { results := [.lit (.bool true)], args := [d] }
  | _ => none }
def streamPiecesRow : OpenClaim := { program := "ytnafodnaolmffaa", sum := "2efbeda51f3c50539dd6dbeba68fbe0fc4ea5a45e555a9415002ce21c6be600a", func := "teetotum/teetotumlaw15.StreamPieces", spec := "streamPieces", unfollowed := true, recurses := true, apart := false }
def StreamPiecesSaid : Prop := streamPiecesRow.holds Try.pinned (OpenSpec.ofChange streamPiecesSpec)

/-- ITS FALSE NEIGHBOUR: 'it returns false'. Refute it at one input. -/
def streamPiecesWrong : ChangeSpec := { name := "streamPieces", fn := fun _ => fun
  | [d] => { results := [.lit (.bool false)], args := [d] }
  | _ => none }
def StreamPiecesWrongFalsely : Prop := streamPiecesRow.holds Try.pinned (OpenSpec.ofChange streamPiecesWrong)

/-- 'teetotumlaw15.StreamFinds': WHATEVER THE INPUT: true; the input reads as it did. -/
def streamFindsSpec : ChangeSpec := { name := "streamFinds", fn := fun _ => fun
  | [d1, d2] => { results := [.lit (.bool true)], args := [d1, d2] }
  | _ => none }
def streamFindsRow : OpenClaim := { program := "ytnafodnaolmffaa", sum := "2efbeda51f3c50539dd6dbeba68fbe0fc4ea5a45e555a9415002ce21c6be600a", func := "teetotum/teetotumlaw15.StreamFinds", spec := "streamFinds", unfollowed := true, recurses := true, apart := false }
def StreamFindsSaid : Prop := streamFindsRow.holds Try.pinned (OpenSpec.ofChange streamFindsSpec)

/-- ITS FALSE NEIGHBOUR: 'it returns false'. Refute it at one input. -/
def streamFindsWrong : ChangeSpec := { name := "streamFinds", fn := fun _ => fun
  | [d1, d2] => { results := [.lit (.bool false)], args := [d1, d2] }
  | _ => none }
def StreamFindsWrongFalsely : Prop := streamFindsRow.holds Try.pinned (OpenSpec.ofChange streamFindsWrong)

/-- 'teetotumlaw15.StreamGaps': WHATEVER THE INPUT: true; the input reads as it did. -/
def streamGapsSpec : ChangeSpec := { name := "streamGaps", fn := fun _ => fun
  | [d1, d2] => { results := [.lit (.bool true)], args := [d1, d2] }
  | _ => none }
def streamGapsRow : OpenClaim := { program := "ytnafodnaolmffaa", sum := "2efbeda51f3c50539dd6dbeba68fbe0fc4ea5a45e555a9415002ce21c6be600a", func := "teetotum/teetotumlaw15.StreamGaps", spec := "streamGaps", unfollowed := true, recurses := true, apart := false }
def StreamGapsSaid : Prop := streamGapsRow.holds Try.pinned (OpenSpec.ofChange streamGapsSpec)

/-- ITS FALSE NEIGHBOUR: 'it returns false'. Refute it at one input. -/
def streamGapsWrong : ChangeSpec := { name := "streamGaps", fn := fun _ => fun
  | [d1, d2] => { results := [.lit (.bool false)], args := [d1, d2] }
  | _ => none }
def StreamGapsWrongFalsely : Prop := streamGapsRow.holds Try.pinned (OpenSpec.ofChange streamGapsWrong)

/- THE SECOND FORM. 'bulk': how many values and letters a reading holds, each counted each time it is reached (what is shared counts as often as it is met; a slice's spare places count too). A statement '..UptoSaid' is the law's where the arguments, and the package variables that the reading takes, are together of bulk at most 1048576: NARROWER than '..Said'. Prove '..Said' where nothing that the law and all that it calls make is longer than what came in: it says more and counts as full. Else prove '..UptoSaid'. A law counts once. -/
mutual
def uptoBulk {H : Type} : DataW H → Nat
  | .lit (.string bytes) => bytes.length + 1
  | .lit _ => 1
  | .nil => 1
  | .ptr d => uptoBulk d + 1
  | .slice elems spare => uptoBulkAll elems + uptoBulkAll spare + 1
  | .agg parts => uptoBulkAll parts + 1
  | .iface _ d => uptoBulk d + 1
  | .map entries => uptoBulkEntries entries + 1
  | .held _ => 1
def uptoBulkAll {H : Type} : List (DataW H) → Nat
  | [] => 0
  | d :: r => uptoBulk d + uptoBulkAll r
def uptoBulkEntries {H : Type} : List (Lit × DataW H) → Nat
  | [] => 0
  | x :: r => uptoBulkEntry x + uptoBulkEntries r
def uptoBulkEntry {H : Type} : Lit × DataW H → Nat
  | (.string bytes, d) => bytes.length + uptoBulk d + 1
  | (_, d) => uptoBulk d + 1
 end
def uptoSmall : (H : Type) → List (DataW H) → Bool := fun _ ds => decide (uptoBulkAll ds ≤ 1048576)
def OpenSpec.upto (s : _root_.Go.ChangeSpec) : _root_.Go.OpenSpec := { _root_.Go.OpenSpec.ofChange s with cond := some uptoSmall }

/-- 'teetotumlaw15.StreamSays', WHERE WHAT IT READS IS OF BULK AT MOST 1048576: true; the input reads as it did. -/
def streamSaysUptoRow : OpenClaim := { program := "ytnafodnaolmffaa", sum := "2efbeda51f3c50539dd6dbeba68fbe0fc4ea5a45e555a9415002ce21c6be600a", func := "teetotum/teetotumlaw15.StreamSays", spec := "streamSays", unfollowed := true, recurses := true, apart := false, narrowed := true }
def StreamSaysUptoSaid : Prop := streamSaysUptoRow.holds Try.pinned (OpenSpec.upto streamSaysSpec)

/-- 'teetotumlaw15.StreamPieces', WHERE WHAT IT READS IS OF BULK AT MOST 1048576: true; the input reads as it did. -/
def streamPiecesUptoRow : OpenClaim := { program := "ytnafodnaolmffaa", sum := "2efbeda51f3c50539dd6dbeba68fbe0fc4ea5a45e555a9415002ce21c6be600a", func := "teetotum/teetotumlaw15.StreamPieces", spec := "streamPieces", unfollowed := true, recurses := true, apart := false, narrowed := true }
def StreamPiecesUptoSaid : Prop := streamPiecesUptoRow.holds Try.pinned (OpenSpec.upto streamPiecesSpec)

/-- 'teetotumlaw15.StreamFinds', WHERE WHAT IT READS IS OF BULK AT MOST 1048576: true; the input reads as it did. -/
def streamFindsUptoRow : OpenClaim := { program := "ytnafodnaolmffaa", sum := "2efbeda51f3c50539dd6dbeba68fbe0fc4ea5a45e555a9415002ce21c6be600a", func := "teetotum/teetotumlaw15.StreamFinds", spec := "streamFinds", unfollowed := true, recurses := true, apart := false, narrowed := true }
def StreamFindsUptoSaid : Prop := streamFindsUptoRow.holds Try.pinned (OpenSpec.upto streamFindsSpec)

/-- 'teetotumlaw15.StreamGaps', WHERE WHAT IT READS IS OF BULK AT MOST 1048576: true; the input reads as it did. -/
def streamGapsUptoRow : OpenClaim := { program := "ytnafodnaolmffaa", sum := "2efbeda51f3c50539dd6dbeba68fbe0fc4ea5a45e555a9415002ce21c6be600a", func := "teetotum/teetotumlaw15.StreamGaps", spec := "streamGaps", unfollowed := true, recurses := true, apart := false, narrowed := true }
def StreamGapsUptoSaid : Prop := streamGapsUptoRow.holds Try.pinned (OpenSpec.upto streamGapsSpec)

end Rows
end Go.Proofs.Ytnafodnaolmffaa
