/-
  NARROWER THAN 'FOR EVERY INPUT', by the rows' own cells (each row's printed sentence says how): LadderSays: laid · LadderFalls: laid · LadderCauses: laid.
  DERIVED. THE GIVEN ROWS OF THIS SEAT. 3 by the template 'for every input the law returns true; each argument reads behind the call as it read before'; 0 by the template 'total and deterministic' (their statements: YtmenicgoabmcmaaDoorTotals.lean).
  GIVEN WITH THE SEED: the statements are not yours to turn. If you find one false, say at which input.
  Laid BY PROGRAM, IN A SANDBOX (cutbox-rows.mjs): the forced cells as the released guide's own fill.sh prints them over the translation 8445c6ba6853f9a5… (all of the seat's roots in one cut). By AI agents, Wed Nov 11 2026. No macro, syntax, notation, axiom, sorry.
-/
import Derived.Test.YtmenicgoabmcmaaDoorChecked
import GoSem.Claim
import GoSem.ClaimJoined
import GoSem.ClaimMapViews
import Derived.JoinedTies
import Derived.KernelRfl
namespace Go.Proofs.YtmenicgoabmcmaaDoor
/- THE CELL 'sum', in the pinned program and in every row, IS THE sha256 OF THE DUMP (.gsa) THAT YtmenicgoabmcmaaDoorProg.lean LOADS. Nothing in Lean hashes anything: it is a label: what it is worth is what the hold of that sum in a sandbox is worth. -/
noncomputable def Tryd.pinned : Pinned := { name := "ytmenicgoabmcmaadoor", sum := "8445c6ba6853f9a56c184b755aa068cfb9db46a508e882c32386251252e9e220", checked := Tryd.checked }
namespace Rows
def none {H : Type} : Left H := { results := [], args := [] }

/- WHAT THE LISTED PACKAGE-LEVEL VARIABLES READ AS WHEN THE CALL BEGINS. Each datum BY PROGRAM (the guide's laid-datum.mjs) off the statement by which the dump's own 'gosem.cut.vars' lays the variable. In a bare row this is a premise. The card (YtmenicgoabmcmaaDoorCards.lean) ties it to the program's text. -/
def laid_teetotum_ladder_names {H : Type} : DataW H := .agg [.lit (.string [70, 85, 76, 76]), .lit (.string [70, 65, 73, 76, 45, 79, 80]), .lit (.string [70, 65, 73, 76, 45, 83, 65, 70, 69]), .lit (.string [65, 77, 66, 73, 71, 85, 79, 85, 83]), .lit (.string [82, 65, 84, 69, 45, 79, 78, 76, 89]), .lit (.string [78, 65, 86, 45, 76, 79, 83, 84])]

/-- 'teetotumlaw32.LadderSays': WHATEVER THE INPUT: true; the input reads as it did. -/
def ladderSaysSpec : ChangeSpec := { name := "ladderSays", fn := fun _ => fun
  | [d1, d2, d3] => { results := [.lit (.bool true)], args := [d1, d2, d3] }
  | _ => none }
def ladderSaysRow : OpenClaim := { program := "ytmenicgoabmcmaadoor", sum := "8445c6ba6853f9a56c184b755aa068cfb9db46a508e882c32386251252e9e220", func := "teetotum/teetotumlaw32.LadderSays", spec := "ladderSays", named := ["teetotum/ladder.names"], apart := false, laid := [("teetotum/ladder.names", laid_teetotum_ladder_names)] }
def LadderSaysSaid : Prop := ladderSaysRow.holds Tryd.pinned (OpenSpec.ofChange ladderSaysSpec)

/-- ITS FALSE NEIGHBOUR: 'it returns false'. Refute it at one input. -/
def ladderSaysWrong : ChangeSpec := { name := "ladderSays", fn := fun _ => fun
  | [d1, d2, d3] => { results := [.lit (.bool false)], args := [d1, d2, d3] }
  | _ => none }
def LadderSaysWrongFalsely : Prop := ladderSaysRow.holds Tryd.pinned (OpenSpec.ofChange ladderSaysWrong)

/-- 'teetotumlaw32.LadderFalls': WHATEVER THE INPUT: true; the input reads as it did. -/
def ladderFallsSpec : ChangeSpec := { name := "ladderFalls", fn := fun _ => fun
  | [d1, d2] => { results := [.lit (.bool true)], args := [d1, d2] }
  | _ => none }
def ladderFallsRow : OpenClaim := { program := "ytmenicgoabmcmaadoor", sum := "8445c6ba6853f9a56c184b755aa068cfb9db46a508e882c32386251252e9e220", func := "teetotum/teetotumlaw32.LadderFalls", spec := "ladderFalls", named := ["teetotum/ladder.names"], apart := false, laid := [("teetotum/ladder.names", laid_teetotum_ladder_names)] }
def LadderFallsSaid : Prop := ladderFallsRow.holds Tryd.pinned (OpenSpec.ofChange ladderFallsSpec)

/-- ITS FALSE NEIGHBOUR: 'it returns false'. Refute it at one input. -/
def ladderFallsWrong : ChangeSpec := { name := "ladderFalls", fn := fun _ => fun
  | [d1, d2] => { results := [.lit (.bool false)], args := [d1, d2] }
  | _ => none }
def LadderFallsWrongFalsely : Prop := ladderFallsRow.holds Tryd.pinned (OpenSpec.ofChange ladderFallsWrong)

/-- 'teetotumlaw32.LadderCauses': WHATEVER THE INPUT: true; the input reads as it did. -/
def ladderCausesSpec : ChangeSpec := { name := "ladderCauses", fn := fun _ => fun
  | [d1, d2] => { results := [.lit (.bool true)], args := [d1, d2] }
  | _ => none }
def ladderCausesRow : OpenClaim := { program := "ytmenicgoabmcmaadoor", sum := "8445c6ba6853f9a56c184b755aa068cfb9db46a508e882c32386251252e9e220", func := "teetotum/teetotumlaw32.LadderCauses", spec := "ladderCauses", named := ["teetotum/ladder.names"], apart := false, laid := [("teetotum/ladder.names", laid_teetotum_ladder_names)] }
def LadderCausesSaid : Prop := ladderCausesRow.holds Tryd.pinned (OpenSpec.ofChange ladderCausesSpec)

/-- ITS FALSE NEIGHBOUR: 'it returns false'. Refute it at one input. -/
def ladderCausesWrong : ChangeSpec := { name := "ladderCauses", fn := fun _ => fun
  | [d1, d2] => { results := [.lit (.bool false)], args := [d1, d2] }
  | _ => none }
def LadderCausesWrongFalsely : Prop := ladderCausesRow.holds Tryd.pinned (OpenSpec.ofChange ladderCausesWrong)

/- THE SECOND FORM. 'bulk': how many values and letters a reading holds, each counted each time it is reached (what is shared counts as often as it is met; a slice's spare places count too). A statement '..UptoSaid' is the law's where the arguments, and the package variables that the reading takes, are together of bulk at most 1048576: NARROWER than '..Said'. Prove '..Said' where nothing that the law and all that it calls make is longer than what came in: it says more and counts as full. Else prove '..UptoSaid'. A law counts once. -/
mutual
def uptoBulk {H : Type} : DataW H → Nat
  | .lit (.string bytes) => bytes.length + 1
  | .lit _ => 1
  | .nil => 1
  | .ptr d => uptoBulk d + 1
  | .slice elems spare => uptoBulkAll elems + uptoBulkAll spare + 1
  | .agg parts => uptoBulkAll parts + 1
  | .iface _ d => uptoBulk d + 1
  | .map entries => uptoBulkEntries entries + 1
  | .held _ => 1
def uptoBulkAll {H : Type} : List (DataW H) → Nat
  | [] => 0
  | d :: r => uptoBulk d + uptoBulkAll r
def uptoBulkEntries {H : Type} : List (Lit × DataW H) → Nat
  | [] => 0
  | x :: r => uptoBulkEntry x + uptoBulkEntries r
def uptoBulkEntry {H : Type} : Lit × DataW H → Nat
  | (.string bytes, d) => bytes.length + uptoBulk d + 1
  | (_, d) => uptoBulk d + 1
 end
def uptoSmall : (H : Type) → List (DataW H) → Bool := fun _ ds => decide (uptoBulkAll ds ≤ 1048576)
def OpenSpec.upto (s : _root_.Go.ChangeSpec) : _root_.Go.OpenSpec := { _root_.Go.OpenSpec.ofChange s with cond := some uptoSmall }

/-- 'teetotumlaw32.LadderSays', WHERE WHAT IT READS IS OF BULK AT MOST 1048576: true; the input reads as it did. -/
def ladderSaysUptoRow : OpenClaim := { program := "ytmenicgoabmcmaadoor", sum := "8445c6ba6853f9a56c184b755aa068cfb9db46a508e882c32386251252e9e220", func := "teetotum/teetotumlaw32.LadderSays", spec := "ladderSays", named := ["teetotum/ladder.names"], apart := false, laid := [("teetotum/ladder.names", laid_teetotum_ladder_names)], narrowed := true }
def LadderSaysUptoSaid : Prop := ladderSaysUptoRow.holds Tryd.pinned (OpenSpec.upto ladderSaysSpec)

/-- 'teetotumlaw32.LadderFalls', WHERE WHAT IT READS IS OF BULK AT MOST 1048576: true; the input reads as it did. -/
def ladderFallsUptoRow : OpenClaim := { program := "ytmenicgoabmcmaadoor", sum := "8445c6ba6853f9a56c184b755aa068cfb9db46a508e882c32386251252e9e220", func := "teetotum/teetotumlaw32.LadderFalls", spec := "ladderFalls", named := ["teetotum/ladder.names"], apart := false, laid := [("teetotum/ladder.names", laid_teetotum_ladder_names)], narrowed := true }
def LadderFallsUptoSaid : Prop := ladderFallsUptoRow.holds Tryd.pinned (OpenSpec.upto ladderFallsSpec)

/-- 'teetotumlaw32.LadderCauses', WHERE WHAT IT READS IS OF BULK AT MOST 1048576: true; the input reads as it did. -/
def ladderCausesUptoRow : OpenClaim := { program := "ytmenicgoabmcmaadoor", sum := "8445c6ba6853f9a56c184b755aa068cfb9db46a508e882c32386251252e9e220", func := "teetotum/teetotumlaw32.LadderCauses", spec := "ladderCauses", named := ["teetotum/ladder.names"], apart := false, laid := [("teetotum/ladder.names", laid_teetotum_ladder_names)], narrowed := true }
def LadderCausesUptoSaid : Prop := ladderCausesUptoRow.holds Tryd.pinned (OpenSpec.upto ladderCausesSpec)

end Rows
end Go.Proofs.YtmenicgoabmcmaaDoor
