/-
  NARROWER THAN 'FOR EVERY INPUT', by the rows' own cells (each row's printed sentence says how): LatchSays: laid · LatchJoins: laid · LatchBits: laid.
  DERIVED. THE GIVEN ROWS OF THIS SEAT. 3 by the template 'for every input the law returns true; each argument reads behind the call as it read before'; 0 by the template 'total and deterministic' (their statements: YtldbkompebefmaaDoorTotals.lean).
  GIVEN WITH THE SEED: the statements are not yours to turn. If you find one false, say at which input.
  Laid BY PROGRAM, IN A SANDBOX (cutbox-rows.mjs): the forced cells as the released guide's own fill.sh prints them over the translation 8fd9ce0aecb96e28… (all of the seat's roots in one cut). By AI agents, Wed Nov 11 2026. No macro, syntax, notation, axiom, sorry.
-/
import Derived.Test.YtldbkompebefmaaDoorChecked
import GoSem.Claim
import GoSem.ClaimJoined
import GoSem.ClaimMapViews
import Derived.JoinedTies
import Derived.KernelRfl
namespace Go.Proofs.YtldbkompebefmaaDoor
/- THE CELL 'sum', in the pinned program and in every row, IS THE sha256 OF THE DUMP (.gsa) THAT YtldbkompebefmaaDoorProg.lean LOADS. Nothing in Lean hashes anything: it is a label: what it is worth is what the hold of that sum in a sandbox is worth. -/
noncomputable def Tryd.pinned : Pinned := { name := "ytldbkompebefmaadoor", sum := "8fd9ce0aecb96e28b34b0b0f36981e5ebdb03e825daffa7380c7758aa3cd017b", checked := Tryd.checked }
namespace Rows
def none {H : Type} : Left H := { results := [], args := [] }

/- WHAT THE LISTED PACKAGE-LEVEL VARIABLES READ AS WHEN THE CALL BEGINS. Each datum BY PROGRAM (the guide's laid-datum.mjs) off the statement by which the dump's own 'gosem.cut.vars' lays the variable. In a bare row this is a premise. The card (YtldbkompebefmaaDoorCards.lean) ties it to the program's text. -/
def laid_teetotum_geom_pairs {H : Type} : DataW H := .agg [.agg [.lit (.int .i64 0), .lit (.int .i64 1)], .agg [.lit (.int .i64 0), .lit (.int .i64 2)], .agg [.lit (.int .i64 0), .lit (.int .i64 3)], .agg [.lit (.int .i64 0), .lit (.int .i64 4)], .agg [.lit (.int .i64 0), .lit (.int .i64 5)], .agg [.lit (.int .i64 1), .lit (.int .i64 2)], .agg [.lit (.int .i64 1), .lit (.int .i64 3)], .agg [.lit (.int .i64 1), .lit (.int .i64 4)], .agg [.lit (.int .i64 1), .lit (.int .i64 5)], .agg [.lit (.int .i64 2), .lit (.int .i64 3)], .agg [.lit (.int .i64 2), .lit (.int .i64 4)], .agg [.lit (.int .i64 2), .lit (.int .i64 5)], .agg [.lit (.int .i64 3), .lit (.int .i64 4)], .agg [.lit (.int .i64 3), .lit (.int .i64 5)], .agg [.lit (.int .i64 4), .lit (.int .i64 5)]]

/-- 'teetotumlaw33.LatchSays': WHATEVER THE INPUT: true; the input reads as it did. -/
def latchSaysSpec : ChangeSpec := { name := "latchSays", fn := fun _ => fun
  | [d1, d2, d3] => { results := [.lit (.bool true)], args := [d1, d2, d3] }
  | _ => none }
def latchSaysRow : OpenClaim := { program := "ytldbkompebefmaadoor", sum := "8fd9ce0aecb96e28b34b0b0f36981e5ebdb03e825daffa7380c7758aa3cd017b", func := "teetotum/teetotumlaw33.LatchSays", spec := "latchSays", named := ["teetotum/geom.pairs"], apart := false, laid := [("teetotum/geom.pairs", laid_teetotum_geom_pairs)] }
def LatchSaysSaid : Prop := latchSaysRow.holds Tryd.pinned (OpenSpec.ofChange latchSaysSpec)

/-- ITS FALSE NEIGHBOUR: 'it returns false'. Refute it at one input. -/
def latchSaysWrong : ChangeSpec := { name := "latchSays", fn := fun _ => fun
  | [d1, d2, d3] => { results := [.lit (.bool false)], args := [d1, d2, d3] }
  | _ => none }
def LatchSaysWrongFalsely : Prop := latchSaysRow.holds Tryd.pinned (OpenSpec.ofChange latchSaysWrong)

/-- 'teetotumlaw33.LatchJoins': WHATEVER THE INPUT: true; the input reads as it did. -/
def latchJoinsSpec : ChangeSpec := { name := "latchJoins", fn := fun _ => fun
  | [d1, d2, d3] => { results := [.lit (.bool true)], args := [d1, d2, d3] }
  | _ => none }
def latchJoinsRow : OpenClaim := { program := "ytldbkompebefmaadoor", sum := "8fd9ce0aecb96e28b34b0b0f36981e5ebdb03e825daffa7380c7758aa3cd017b", func := "teetotum/teetotumlaw33.LatchJoins", spec := "latchJoins", named := ["teetotum/geom.pairs"], apart := false, laid := [("teetotum/geom.pairs", laid_teetotum_geom_pairs)] }
def LatchJoinsSaid : Prop := latchJoinsRow.holds Tryd.pinned (OpenSpec.ofChange latchJoinsSpec)

/-- ITS FALSE NEIGHBOUR: 'it returns false'. Refute it at one input. -/
def latchJoinsWrong : ChangeSpec := { name := "latchJoins", fn := fun _ => fun
  | [d1, d2, d3] => { results := [.lit (.bool false)], args := [d1, d2, d3] }
  | _ => none }
def LatchJoinsWrongFalsely : Prop := latchJoinsRow.holds Tryd.pinned (OpenSpec.ofChange latchJoinsWrong)

/-- 'teetotumlaw33.LatchBits': WHATEVER THE INPUT: true; the input reads as it did. -/
def latchBitsSpec : ChangeSpec := { name := "latchBits", fn := fun _ => fun
  | [d1, d2] => { results := [.lit (.bool true)], args := [d1, d2] }
  | _ => none }
def latchBitsRow : OpenClaim := { program := "ytldbkompebefmaadoor", sum := "8fd9ce0aecb96e28b34b0b0f36981e5ebdb03e825daffa7380c7758aa3cd017b", func := "teetotum/teetotumlaw33.LatchBits", spec := "latchBits", named := ["teetotum/geom.pairs"], apart := false, laid := [("teetotum/geom.pairs", laid_teetotum_geom_pairs)] }
def LatchBitsSaid : Prop := latchBitsRow.holds Tryd.pinned (OpenSpec.ofChange latchBitsSpec)

/-- ITS FALSE NEIGHBOUR: 'it returns false'. Refute it at one input. -/
def latchBitsWrong : ChangeSpec := { name := "latchBits", fn := fun _ => fun
  | [d1, d2] => { results := [.lit (.bool false)], args := [d1, d2] }
  | _ => none }
def LatchBitsWrongFalsely : Prop := latchBitsRow.holds Tryd.pinned (OpenSpec.ofChange latchBitsWrong)

/- THE SECOND FORM. 'bulk': how many values and letters a reading holds, each counted each time it is reached (what is shared counts as often as it is met; a slice's spare places count too). A statement '..UptoSaid' is the law's where the arguments, and the package variables that the reading takes, are together of bulk at most 1048576: NARROWER than '..Said'. Prove '..Said' where nothing that the law and all that it calls make is longer than what came in: it says more and counts as full. Else prove '..UptoSaid'. A law counts once. -/
mutual
def uptoBulk {H : Type} : DataW H → Nat
  | .lit (.string bytes) => bytes.length + 1
  | .lit _ => 1
  | .nil => 1
  | .ptr d => uptoBulk d + 1
  | .slice elems spare => uptoBulkAll elems + uptoBulkAll spare + 1
  | .agg parts => uptoBulkAll parts + 1
  | .iface _ d => uptoBulk d + 1
  | .map entries => uptoBulkEntries entries + 1
  | .held _ => 1
def uptoBulkAll {H : Type} : List (DataW H) → Nat
  | [] => 0
  | d :: r => uptoBulk d + uptoBulkAll r
def uptoBulkEntries {H : Type} : List (Lit × DataW H) → Nat
  | [] => 0
  | x :: r => uptoBulkEntry x + uptoBulkEntries r
def uptoBulkEntry {H : Type} : Lit × DataW H → Nat
  | (.string bytes, d) => bytes.length + uptoBulk d + 1
  | (_, d) => uptoBulk d + 1
 end
def uptoSmall : (H : Type) → List (DataW H) → Bool := fun _ ds => decide (uptoBulkAll ds ≤ 1048576)
def OpenSpec.upto (s : _root_.Go.ChangeSpec) : _root_.Go.OpenSpec := { _root_.Go.OpenSpec.ofChange s with cond := some uptoSmall }

/-- 'teetotumlaw33.LatchSays', WHERE WHAT IT READS IS OF BULK AT MOST 1048576: true; the input reads as it did. -/
def latchSaysUptoRow : OpenClaim := { program := "ytldbkompebefmaadoor", sum := "8fd9ce0aecb96e28b34b0b0f36981e5ebdb03e825daffa7380c7758aa3cd017b", func := "teetotum/teetotumlaw33.LatchSays", spec := "latchSays", named := ["teetotum/geom.pairs"], apart := false, laid := [("teetotum/geom.pairs", laid_teetotum_geom_pairs)], narrowed := true }
def LatchSaysUptoSaid : Prop := latchSaysUptoRow.holds Tryd.pinned (OpenSpec.upto latchSaysSpec)

/-- 'teetotumlaw33.LatchJoins', WHERE WHAT IT READS IS OF BULK AT MOST 1048576: true; the input reads as it did. -/
def latchJoinsUptoRow : OpenClaim := { program := "ytldbkompebefmaadoor", sum := "8fd9ce0aecb96e28b34b0b0f36981e5ebdb03e825daffa7380c7758aa3cd017b", func := "teetotum/teetotumlaw33.LatchJoins", spec := "latchJoins", named := ["teetotum/geom.pairs"], apart := false, laid := [("teetotum/geom.pairs", laid_teetotum_geom_pairs)], narrowed := true }
def LatchJoinsUptoSaid : Prop := latchJoinsUptoRow.holds Tryd.pinned (OpenSpec.upto latchJoinsSpec)

/-- 'teetotumlaw33.LatchBits', WHERE WHAT IT READS IS OF BULK AT MOST 1048576: true; the input reads as it did. -/
def latchBitsUptoRow : OpenClaim := { program := "ytldbkompebefmaadoor", sum := "8fd9ce0aecb96e28b34b0b0f36981e5ebdb03e825daffa7380c7758aa3cd017b", func := "teetotum/teetotumlaw33.LatchBits", spec := "latchBits", named := ["teetotum/geom.pairs"], apart := false, laid := [("teetotum/geom.pairs", laid_teetotum_geom_pairs)], narrowed := true }
def LatchBitsUptoSaid : Prop := latchBitsUptoRow.holds Tryd.pinned (OpenSpec.upto latchBitsSpec)

end Rows
end Go.Proofs.YtldbkompebefmaaDoor
