/-
  NARROWER THAN 'FOR EVERY INPUT', by the rows' own cells (each row's printed sentence says how): TripleFair: laid · TripleSpread: laid.
  DERIVED. THE GIVEN ROWS OF THIS SEAT. 2 by the template 'for every input the law returns true; each argument reads behind the call as it read before'; 0 by the template 'total and deterministic' (their statements: YthhameambcplhaaDoorTotals.lean).
  GIVEN WITH THE SEED: the statements are not yours to turn. If you find one false, say at which input.
  Laid BY PROGRAM, IN A SANDBOX (cutbox-rows.mjs): the forced cells as the released guide's own fill.sh prints them over the translation 3e37e6857142b83e… (all of the seat's roots in one cut). By AI agents, Wed Nov 11 2026. No macro, syntax, notation, axiom, sorry.
-/
import Derived.Test.YthhameambcplhaaDoorChecked
import GoSem.Claim
import GoSem.ClaimJoined
import GoSem.ClaimMapViews
import Derived.JoinedTies
import Derived.KernelRfl
namespace Go.Proofs.YthhameambcplhaaDoor
/- THE CELL 'sum', in the pinned program and in every row, IS THE sha256 OF THE DUMP (.gsa) THAT YthhameambcplhaaDoorProg.lean LOADS. Nothing in Lean hashes anything: it is a label: what it is worth is what the hold of that sum in a sandbox is worth. -/
noncomputable def Tryd.pinned : Pinned := { name := "ythhameambcplhaadoor", sum := "3e37e6857142b83e0a48dd1db78ad257e77269b0f228603f901e7d8365cd4235", checked := Tryd.checked }
namespace Rows
def none {H : Type} : Left H := { results := [], args := [] }

/- WHAT THE LISTED PACKAGE-LEVEL VARIABLES READ AS WHEN THE CALL BEGINS. Each datum BY PROGRAM (the guide's laid-datum.mjs) off the statement by which the dump's own 'gosem.cut.vars' lays the variable. In a bare row this is a premise. The card (YthhameambcplhaaDoorCards.lean) ties it to the program's text. -/
def laid_teetotum_span_none {H : Type} : DataW H := .agg [.lit (.int .i64 1), .lit (.int .i64 0)]
def laid_teetotum_geom_cone {H : Type} : DataW H := .agg [.agg [.lit (.int .i64 10), .lit (.int .i64 0), .lit (.int .i64 5)], .agg [.lit (.int .i64 5), .lit (.int .i64 9), .lit (.int .i64 5)], .agg [.lit (.int .i64 (-5)), .lit (.int .i64 9), .lit (.int .i64 6)], .agg [.lit (.int .i64 (-10)), .lit (.int .i64 1), .lit (.int .i64 5)], .agg [.lit (.int .i64 (-5)), .lit (.int .i64 (-9)), .lit (.int .i64 5)], .agg [.lit (.int .i64 6), .lit (.int .i64 (-9)), .lit (.int .i64 5)]]

/-- 'teetotumlaw30.TripleFair': WHATEVER THE INPUT: true; the input reads as it did. -/
def tripleFairSpec : ChangeSpec := { name := "tripleFair", fn := fun _ => fun
  | [d1, d2, d3] => { results := [.lit (.bool true)], args := [d1, d2, d3] }
  | _ => none }
def tripleFairRow : OpenClaim := { program := "ythhameambcplhaadoor", sum := "3e37e6857142b83e0a48dd1db78ad257e77269b0f228603f901e7d8365cd4235", func := "teetotum/teetotumlaw30.TripleFair", spec := "tripleFair", named := ["teetotum/geom.cone", "teetotum/span.none"], apart := false, laid := [("teetotum/span.none", laid_teetotum_span_none), ("teetotum/geom.cone", laid_teetotum_geom_cone)] }
def TripleFairSaid : Prop := tripleFairRow.holds Tryd.pinned (OpenSpec.ofChange tripleFairSpec)

/-- ITS FALSE NEIGHBOUR: 'it returns false'. Refute it at one input. -/
def tripleFairWrong : ChangeSpec := { name := "tripleFair", fn := fun _ => fun
  | [d1, d2, d3] => { results := [.lit (.bool false)], args := [d1, d2, d3] }
  | _ => none }
def TripleFairWrongFalsely : Prop := tripleFairRow.holds Tryd.pinned (OpenSpec.ofChange tripleFairWrong)

/-- 'teetotumlaw30.TripleSpread': WHATEVER THE INPUT: true; the input reads as it did. -/
def tripleSpreadSpec : ChangeSpec := { name := "tripleSpread", fn := fun _ => fun
  | [d1, d2, d3] => { results := [.lit (.bool true)], args := [d1, d2, d3] }
  | _ => none }
def tripleSpreadRow : OpenClaim := { program := "ythhameambcplhaadoor", sum := "3e37e6857142b83e0a48dd1db78ad257e77269b0f228603f901e7d8365cd4235", func := "teetotum/teetotumlaw30.TripleSpread", spec := "tripleSpread", named := ["teetotum/geom.cone", "teetotum/span.none"], apart := false, laid := [("teetotum/span.none", laid_teetotum_span_none), ("teetotum/geom.cone", laid_teetotum_geom_cone)] }
def TripleSpreadSaid : Prop := tripleSpreadRow.holds Tryd.pinned (OpenSpec.ofChange tripleSpreadSpec)

/-- ITS FALSE NEIGHBOUR: 'it returns false'. Refute it at one input. -/
def tripleSpreadWrong : ChangeSpec := { name := "tripleSpread", fn := fun _ => fun
  | [d1, d2, d3] => { results := [.lit (.bool false)], args := [d1, d2, d3] }
  | _ => none }
def TripleSpreadWrongFalsely : Prop := tripleSpreadRow.holds Tryd.pinned (OpenSpec.ofChange tripleSpreadWrong)

/- THE SECOND FORM. 'bulk': how many values and letters a reading holds, each counted each time it is reached (what is shared counts as often as it is met; a slice's spare places count too). A statement '..UptoSaid' is the law's where the arguments, and the package variables that the reading takes, are together of bulk at most 1048576: NARROWER than '..Said'. Prove '..Said' where nothing that the law and all that it calls make is longer than what came in: it says more and counts as full. Else prove '..UptoSaid'. A law counts once. -/
mutual
def uptoBulk {H : Type} : DataW H → Nat
  | .lit (.string bytes) => bytes.length + 1
  | .lit _ => 1
  | .nil => 1
  | .ptr d => uptoBulk d + 1
  | .slice elems spare => uptoBulkAll elems + uptoBulkAll spare + 1
  | .agg parts => uptoBulkAll parts + 1
  | .iface _ d => uptoBulk d + 1
  | .map entries => uptoBulkEntries entries + 1
  | .held _ => 1
def uptoBulkAll {H : Type} : List (DataW H) → Nat
  | [] => 0
  | d :: r => uptoBulk d + uptoBulkAll r
def uptoBulkEntries {H : Type} : List (Lit × DataW H) → Nat
  | [] => 0
  | x :: r => uptoBulkEntry x + uptoBulkEntries r
def uptoBulkEntry {H : Type} : Lit × DataW H → Nat
  | (.string bytes, d) => bytes.length + uptoBulk d + 1
  | (_, d) => uptoBulk d + 1
 end
def uptoSmall : (H : Type) → List (DataW H) → Bool := fun _ ds => decide (uptoBulkAll ds ≤ 1048576)
def OpenSpec.upto (s : _root_.Go.ChangeSpec) : _root_.Go.OpenSpec := { _root_.Go.OpenSpec.ofChange s with cond := some uptoSmall }

/-- 'teetotumlaw30.TripleFair', WHERE WHAT IT READS IS OF BULK AT MOST 1048576: true; the input reads as it did. -/
def tripleFairUptoRow : OpenClaim := { program := "ythhameambcplhaadoor", sum := "3e37e6857142b83e0a48dd1db78ad257e77269b0f228603f901e7d8365cd4235", func := "teetotum/teetotumlaw30.TripleFair", spec := "tripleFair", named := ["teetotum/geom.cone", "teetotum/span.none"], apart := false, laid := [("teetotum/span.none", laid_teetotum_span_none), ("teetotum/geom.cone", laid_teetotum_geom_cone)], narrowed := true }
def TripleFairUptoSaid : Prop := tripleFairUptoRow.holds Tryd.pinned (OpenSpec.upto tripleFairSpec)

/-- 'teetotumlaw30.TripleSpread', WHERE WHAT IT READS IS OF BULK AT MOST 1048576: true; the input reads as it did. -/
def tripleSpreadUptoRow : OpenClaim := { program := "ythhameambcplhaadoor", sum := "3e37e6857142b83e0a48dd1db78ad257e77269b0f228603f901e7d8365cd4235", func := "teetotum/teetotumlaw30.TripleSpread", spec := "tripleSpread", named := ["teetotum/geom.cone", "teetotum/span.none"], apart := false, laid := [("teetotum/span.none", laid_teetotum_span_none), ("teetotum/geom.cone", laid_teetotum_geom_cone)], narrowed := true }
def TripleSpreadUptoSaid : Prop := tripleSpreadUptoRow.holds Tryd.pinned (OpenSpec.upto tripleSpreadSpec)

end Rows
end Go.Proofs.YthhameambcplhaaDoor
