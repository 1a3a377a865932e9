/-
  NARROWER THAN 'FOR EVERY INPUT', by the rows' own cells (each row's printed sentence says how): SpanMeets: laid · SpanAdds: laid · SpanProducts: laid · SpanSplits: laid.
  DERIVED. THE GIVEN ROWS OF THIS SEAT. 4 by the template 'for every input the law returns true; each argument reads behind the call as it read before'; 0 by the template 'total and deterministic' (their statements: YtdembidbaojldaaDoorTotals.lean).
  GIVEN WITH THE SEED: the statements are not yours to turn. If you find one false, say at which input.
  Laid BY PROGRAM, IN A SANDBOX (cutbox-rows.mjs): the forced cells as the released guide's own fill.sh prints them over the translation 1e2a10ab438346ba… (all of the seat's roots in one cut). By AI agents, Wed Nov 11 2026. No macro, syntax, notation, axiom, sorry.
-/
import Derived.Test.YtdembidbaojldaaDoorChecked
import GoSem.Claim
import GoSem.ClaimJoined
import GoSem.ClaimMapViews
import Derived.JoinedTies
import Derived.KernelRfl
namespace Go.Proofs.YtdembidbaojldaaDoor
/- THE CELL 'sum', in the pinned program and in every row, IS THE sha256 OF THE DUMP (.gsa) THAT YtdembidbaojldaaDoorProg.lean LOADS. Nothing in Lean hashes anything: it is a label: what it is worth is what the hold of that sum in a sandbox is worth. -/
noncomputable def Tryd.pinned : Pinned := { name := "ytdembidbaojldaadoor", sum := "1e2a10ab438346ba128d6edd5e34cce2613e0660791a67d0969884cffdd84196", checked := Tryd.checked }
namespace Rows
def none {H : Type} : Left H := { results := [], args := [] }

/- WHAT THE LISTED PACKAGE-LEVEL VARIABLES READ AS WHEN THE CALL BEGINS. Each datum BY PROGRAM (the guide's laid-datum.mjs) off the statement by which the dump's own 'gosem.cut.vars' lays the variable. In a bare row this is a premise. The card (YtdembidbaojldaaDoorCards.lean) ties it to the program's text. -/
def laid_teetotum_span_none {H : Type} : DataW H := .agg [.lit (.int .i64 1), .lit (.int .i64 0)]

/-- 'teetotumlaw04.SpanMeets': WHATEVER THE INPUT: true; the input reads as it did. -/
def spanMeetsSpec : ChangeSpec := { name := "spanMeets", fn := fun _ => fun
  | [d1, d2, d3] => { results := [.lit (.bool true)], args := [d1, d2, d3] }
  | _ => none }
def spanMeetsRow : OpenClaim := { program := "ytdembidbaojldaadoor", sum := "1e2a10ab438346ba128d6edd5e34cce2613e0660791a67d0969884cffdd84196", func := "teetotum/teetotumlaw04.SpanMeets", spec := "spanMeets", named := ["teetotum/span.none", "math/bits.divideError", "math/bits.overflowError"], apart := false, laid := [("teetotum/span.none", laid_teetotum_span_none)] }
def SpanMeetsSaid : Prop := spanMeetsRow.holds Tryd.pinned (OpenSpec.ofChange spanMeetsSpec)

/-- ITS FALSE NEIGHBOUR: 'it returns false'. Refute it at one input. -/
def spanMeetsWrong : ChangeSpec := { name := "spanMeets", fn := fun _ => fun
  | [d1, d2, d3] => { results := [.lit (.bool false)], args := [d1, d2, d3] }
  | _ => none }
def SpanMeetsWrongFalsely : Prop := spanMeetsRow.holds Tryd.pinned (OpenSpec.ofChange spanMeetsWrong)

/-- 'teetotumlaw04.SpanAdds': WHATEVER THE INPUT: true; the input reads as it did. -/
def spanAddsSpec : ChangeSpec := { name := "spanAdds", fn := fun _ => fun
  | [d1, d2, d3] => { results := [.lit (.bool true)], args := [d1, d2, d3] }
  | _ => none }
def spanAddsRow : OpenClaim := { program := "ytdembidbaojldaadoor", sum := "1e2a10ab438346ba128d6edd5e34cce2613e0660791a67d0969884cffdd84196", func := "teetotum/teetotumlaw04.SpanAdds", spec := "spanAdds", named := ["teetotum/span.none", "math/bits.divideError", "math/bits.overflowError"], apart := false, laid := [("teetotum/span.none", laid_teetotum_span_none)] }
def SpanAddsSaid : Prop := spanAddsRow.holds Tryd.pinned (OpenSpec.ofChange spanAddsSpec)

/-- ITS FALSE NEIGHBOUR: 'it returns false'. Refute it at one input. -/
def spanAddsWrong : ChangeSpec := { name := "spanAdds", fn := fun _ => fun
  | [d1, d2, d3] => { results := [.lit (.bool false)], args := [d1, d2, d3] }
  | _ => none }
def SpanAddsWrongFalsely : Prop := spanAddsRow.holds Tryd.pinned (OpenSpec.ofChange spanAddsWrong)

/-- 'teetotumlaw04.SpanProducts': WHATEVER THE INPUT: true; the input reads as it did. -/
def spanProductsSpec : ChangeSpec := { name := "spanProducts", fn := fun _ => fun
  | [d1, d2, d3] => { results := [.lit (.bool true)], args := [d1, d2, d3] }
  | _ => none }
def spanProductsRow : OpenClaim := { program := "ytdembidbaojldaadoor", sum := "1e2a10ab438346ba128d6edd5e34cce2613e0660791a67d0969884cffdd84196", func := "teetotum/teetotumlaw04.SpanProducts", spec := "spanProducts", named := ["math/bits.divideError", "math/bits.overflowError", "teetotum/span.none"], apart := false, laid := [("teetotum/span.none", laid_teetotum_span_none)] }
def SpanProductsSaid : Prop := spanProductsRow.holds Tryd.pinned (OpenSpec.ofChange spanProductsSpec)

/-- ITS FALSE NEIGHBOUR: 'it returns false'. Refute it at one input. -/
def spanProductsWrong : ChangeSpec := { name := "spanProducts", fn := fun _ => fun
  | [d1, d2, d3] => { results := [.lit (.bool false)], args := [d1, d2, d3] }
  | _ => none }
def SpanProductsWrongFalsely : Prop := spanProductsRow.holds Tryd.pinned (OpenSpec.ofChange spanProductsWrong)

/-- 'teetotumlaw04.SpanSplits': WHATEVER THE INPUT: true; the input reads as it did. -/
def spanSplitsSpec : ChangeSpec := { name := "spanSplits", fn := fun _ => fun
  | [d1, d2, d3] => { results := [.lit (.bool true)], args := [d1, d2, d3] }
  | _ => none }
def spanSplitsRow : OpenClaim := { program := "ytdembidbaojldaadoor", sum := "1e2a10ab438346ba128d6edd5e34cce2613e0660791a67d0969884cffdd84196", func := "teetotum/teetotumlaw04.SpanSplits", spec := "spanSplits", named := ["teetotum/span.none", "math/bits.divideError", "math/bits.overflowError"], apart := false, laid := [("teetotum/span.none", laid_teetotum_span_none)] }
def SpanSplitsSaid : Prop := spanSplitsRow.holds Tryd.pinned (OpenSpec.ofChange spanSplitsSpec)

/-- ITS FALSE NEIGHBOUR: 'it returns false'. Refute it at one input. -/
def spanSplitsWrong : ChangeSpec := { name := "spanSplits", fn := fun _ => fun
  | [d1, d2, d3] => { results := [.lit (.bool false)], args := [d1, d2, d3] }
  | _ => none }
def SpanSplitsWrongFalsely : Prop := spanSplitsRow.holds Tryd.pinned (OpenSpec.ofChange spanSplitsWrong)

/- THE SECOND FORM. 'bulk': how many values and letters a reading holds, each counted each time it is reached (what is shared counts as often as it is met; a slice's spare places count too). A statement '..UptoSaid' is the law's where the arguments, and the package variables that the reading takes, are together of bulk at most 1048576: NARROWER than '..Said'. Prove '..Said' where nothing that the law and all that it calls make is longer than what came in: it says more and counts as full. Else prove '..UptoSaid'. A law counts once. -/
mutual
def uptoBulk {H : Type} : DataW H → Nat
  | .lit (.string bytes) => bytes.length + 1
  | .lit _ => 1
  | .nil => 1
  | .ptr d => uptoBulk d + 1
  | .slice elems spare => uptoBulkAll elems + uptoBulkAll spare + 1
  | .agg parts => uptoBulkAll parts + 1
  | .iface _ d => uptoBulk d + 1
  | .map entries => uptoBulkEntries entries + 1
  | .held _ => 1
def uptoBulkAll {H : Type} : List (DataW H) → Nat
  | [] => 0
  | d :: r => uptoBulk d + uptoBulkAll r
def uptoBulkEntries {H : Type} : List (Lit × DataW H) → Nat
  | [] => 0
  | x :: r => uptoBulkEntry x + uptoBulkEntries r
def uptoBulkEntry {H : Type} : Lit × DataW H → Nat
  | (.string bytes, d) => bytes.length + uptoBulk d + 1
  | (_, d) => uptoBulk d + 1
 end
def uptoSmall : (H : Type) → List (DataW H) → Bool := fun _ ds => decide (uptoBulkAll ds ≤ 1048576)
def OpenSpec.upto (s : _root_.Go.ChangeSpec) : _root_.Go.OpenSpec := { _root_.Go.OpenSpec.ofChange s with cond := some uptoSmall }

/-- 'teetotumlaw04.SpanMeets', WHERE WHAT IT READS IS OF BULK AT MOST 1048576: true; the input reads as it did. -/
def spanMeetsUptoRow : OpenClaim := { program := "ytdembidbaojldaadoor", sum := "1e2a10ab438346ba128d6edd5e34cce2613e0660791a67d0969884cffdd84196", func := "teetotum/teetotumlaw04.SpanMeets", spec := "spanMeets", named := ["teetotum/span.none", "math/bits.divideError", "math/bits.overflowError"], apart := false, laid := [("teetotum/span.none", laid_teetotum_span_none)], narrowed := true }
def SpanMeetsUptoSaid : Prop := spanMeetsUptoRow.holds Tryd.pinned (OpenSpec.upto spanMeetsSpec)

/-- 'teetotumlaw04.SpanAdds', WHERE WHAT IT READS IS OF BULK AT MOST 1048576: true; the input reads as it did. -/
def spanAddsUptoRow : OpenClaim := { program := "ytdembidbaojldaadoor", sum := "1e2a10ab438346ba128d6edd5e34cce2613e0660791a67d0969884cffdd84196", func := "teetotum/teetotumlaw04.SpanAdds", spec := "spanAdds", named := ["teetotum/span.none", "math/bits.divideError", "math/bits.overflowError"], apart := false, laid := [("teetotum/span.none", laid_teetotum_span_none)], narrowed := true }
def SpanAddsUptoSaid : Prop := spanAddsUptoRow.holds Tryd.pinned (OpenSpec.upto spanAddsSpec)

/-- 'teetotumlaw04.SpanProducts', WHERE WHAT IT READS IS OF BULK AT MOST 1048576: true; the input reads as it did. -/
def spanProductsUptoRow : OpenClaim := { program := "ytdembidbaojldaadoor", sum := "1e2a10ab438346ba128d6edd5e34cce2613e0660791a67d0969884cffdd84196", func := "teetotum/teetotumlaw04.SpanProducts", spec := "spanProducts", named := ["math/bits.divideError", "math/bits.overflowError", "teetotum/span.none"], apart := false, laid := [("teetotum/span.none", laid_teetotum_span_none)], narrowed := true }
def SpanProductsUptoSaid : Prop := spanProductsUptoRow.holds Tryd.pinned (OpenSpec.upto spanProductsSpec)

/-- 'teetotumlaw04.SpanSplits', WHERE WHAT IT READS IS OF BULK AT MOST 1048576: true; the input reads as it did. -/
def spanSplitsUptoRow : OpenClaim := { program := "ytdembidbaojldaadoor", sum := "1e2a10ab438346ba128d6edd5e34cce2613e0660791a67d0969884cffdd84196", func := "teetotum/teetotumlaw04.SpanSplits", spec := "spanSplits", named := ["teetotum/span.none", "math/bits.divideError", "math/bits.overflowError"], apart := false, laid := [("teetotum/span.none", laid_teetotum_span_none)], narrowed := true }
def SpanSplitsUptoSaid : Prop := spanSplitsUptoRow.holds Tryd.pinned (OpenSpec.upto spanSplitsSpec)

end Rows
end Go.Proofs.YtdembidbaojldaaDoor
