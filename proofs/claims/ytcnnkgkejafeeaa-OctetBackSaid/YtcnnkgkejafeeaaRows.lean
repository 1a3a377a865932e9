/-
  No cell of these rows narrows 'for every input' (looked for: loops, veiled, ifaces, maps, wideKeys, modest, calm, conditions, laid).
  DERIVED. THE GIVEN ROWS OF THIS SEAT. 4 by the template 'for every input the law returns true; each argument reads behind the call as it read before'; 0 by the template 'total and deterministic' (their statements: YtcnnkgkejafeeaaTotals.lean).
  GIVEN WITH THE SEED: the statements are not yours to turn. If you find one false, say at which input.
  Laid BY PROGRAM, IN A SANDBOX (cutbox-rows.mjs): the forced cells as the released guide's own fill.sh prints them over the translation 5980280247497b1e… (all of the seat's roots in one cut). By AI agents, Wed Nov 11 2026. No macro, syntax, notation, axiom, sorry.
-/
import Derived.Test.YtcnnkgkejafeeaaChecked
import GoSem.Claim
import GoSem.ClaimJoined
import GoSem.ClaimMapViews
import Derived.JoinedTies
import Derived.KernelRfl
namespace Go.Proofs.Ytcnnkgkejafeeaa
/- THE CELL 'sum', in the pinned program and in every row, IS THE sha256 OF THE DUMP (.gsa) THAT YtcnnkgkejafeeaaProg.lean LOADS. Nothing in Lean hashes anything: it is a label: what it is worth is what the hold of that sum in a sandbox is worth. -/
noncomputable def Try.pinned : Pinned := { name := "ytcnnkgkejafeeaa", sum := "5980280247497b1e989c93111216c423a5a8b5e4b6146afab966595ba92ad508", checked := Try.checked }
namespace Rows
def none {H : Type} : Left H := { results := [], args := [] }

/-- 'teetotumlaw05.OctetSays': WHATEVER THE INPUT: true; the input reads as it did. -/
def octetSaysSpec : ChangeSpec := { name := "octetSays", fn := fun _ => fun
  | [d1, d2, d3] => { results := [.lit (.bool true)], args := [d1, d2, d3] }
  | _ => none }
def octetSaysRow : OpenClaim := { program := "ytcnnkgkejafeeaa", sum := "5980280247497b1e989c93111216c423a5a8b5e4b6146afab966595ba92ad508", func := "teetotum/teetotumlaw05.OctetSays", spec := "octetSays", apart := false }
def OctetSaysSaid : Prop := octetSaysRow.holds Try.pinned (OpenSpec.ofChange octetSaysSpec)

/-- ITS FALSE NEIGHBOUR: 'it returns false'. Refute it at one input. -/
def octetSaysWrong : ChangeSpec := { name := "octetSays", fn := fun _ => fun
  | [d1, d2, d3] => { results := [.lit (.bool false)], args := [d1, d2, d3] }
  | _ => none }
def OctetSaysWrongFalsely : Prop := octetSaysRow.holds Try.pinned (OpenSpec.ofChange octetSaysWrong)

/-- 'teetotumlaw05.OctetBack': WHATEVER THE INPUT: true; the input reads as it did. -/
def octetBackSpec : ChangeSpec := { name := "octetBack", fn := fun _ => fun
  | [d1, d2, d3] => { results := [.lit (.bool true)], args := [d1, d2, d3] }
  | _ => none }
def octetBackRow : OpenClaim := { program := "ytcnnkgkejafeeaa", sum := "5980280247497b1e989c93111216c423a5a8b5e4b6146afab966595ba92ad508", func := "teetotum/teetotumlaw05.OctetBack", spec := "octetBack", apart := false }
def OctetBackSaid : Prop := octetBackRow.holds Try.pinned (OpenSpec.ofChange octetBackSpec)

/-- ITS FALSE NEIGHBOUR: 'it returns false'. Refute it at one input. -/
def octetBackWrong : ChangeSpec := { name := "octetBack", fn := fun _ => fun
  | [d1, d2, d3] => { results := [.lit (.bool false)], args := [d1, d2, d3] }
  | _ => none }
def OctetBackWrongFalsely : Prop := octetBackRow.holds Try.pinned (OpenSpec.ofChange octetBackWrong)

/-- 'teetotumlaw05.OctetVars': WHATEVER THE INPUT: true; the input reads as it did. -/
def octetVarsSpec : ChangeSpec := { name := "octetVars", fn := fun _ => fun
  | [d1, d2, d3] => { results := [.lit (.bool true)], args := [d1, d2, d3] }
  | _ => none }
def octetVarsRow : OpenClaim := { program := "ytcnnkgkejafeeaa", sum := "5980280247497b1e989c93111216c423a5a8b5e4b6146afab966595ba92ad508", func := "teetotum/teetotumlaw05.OctetVars", spec := "octetVars", apart := false }
def OctetVarsSaid : Prop := octetVarsRow.holds Try.pinned (OpenSpec.ofChange octetVarsSpec)

/-- ITS FALSE NEIGHBOUR: 'it returns false'. Refute it at one input. -/
def octetVarsWrong : ChangeSpec := { name := "octetVars", fn := fun _ => fun
  | [d1, d2, d3] => { results := [.lit (.bool false)], args := [d1, d2, d3] }
  | _ => none }
def OctetVarsWrongFalsely : Prop := octetVarsRow.holds Try.pinned (OpenSpec.ofChange octetVarsWrong)

/-- 'teetotumlaw05.OctetFew': WHATEVER THE INPUT: true; the input reads as it did. -/
def octetFewSpec : ChangeSpec := { name := "octetFew", fn := fun _ => fun
  | [d1, d2, d3] => { results := [.lit (.bool true)], args := [d1, d2, d3] }
  | _ => none }
def octetFewRow : OpenClaim := { program := "ytcnnkgkejafeeaa", sum := "5980280247497b1e989c93111216c423a5a8b5e4b6146afab966595ba92ad508", func := "teetotum/teetotumlaw05.OctetFew", spec := "octetFew", apart := false }
def OctetFewSaid : Prop := octetFewRow.holds Try.pinned (OpenSpec.ofChange octetFewSpec)

/-- ITS FALSE NEIGHBOUR: 'it returns false'. Refute it at one input. -/
def octetFewWrong : ChangeSpec := { name := "octetFew", fn := fun _ => fun
  | [d1, d2, d3] => { results := [.lit (.bool false)], args := [d1, d2, d3] }
  | _ => none }
def OctetFewWrongFalsely : Prop := octetFewRow.holds Try.pinned (OpenSpec.ofChange octetFewWrong)

/- THE SECOND FORM. 'bulk': how many values and letters a reading holds, each counted each time it is reached (what is shared counts as often as it is met; a slice's spare places count too). A statement '..UptoSaid' is the law's where the arguments, and the package variables that the reading takes, are together of bulk at most 1048576: NARROWER than '..Said'. Prove '..Said' where nothing that the law and all that it calls make is longer than what came in: it says more and counts as full. Else prove '..UptoSaid'. A law counts once. -/
mutual
def uptoBulk {H : Type} : DataW H → Nat
  | .lit (.string bytes) => bytes.length + 1
  | .lit _ => 1
  | .nil => 1
  | .ptr d => uptoBulk d + 1
  | .slice elems spare => uptoBulkAll elems + uptoBulkAll spare + 1
  | .agg parts => uptoBulkAll parts + 1
  | .iface _ d => uptoBulk d + 1
  | .map entries => uptoBulkEntries entries + 1
  | .held _ => 1
def uptoBulkAll {H : Type} : List (DataW H) → Nat
  | [] => 0
  | d :: r => uptoBulk d + uptoBulkAll r
def uptoBulkEntries {H : Type} : List (Lit × DataW H) → Nat
  | [] => 0
  | x :: r => uptoBulkEntry x + uptoBulkEntries r
def uptoBulkEntry {H : Type} : Lit × DataW H → Nat
  | (.string bytes, d) => bytes.length + uptoBulk d + 1
  | (_, d) => uptoBulk d + 1
 end
def uptoSmall : (H : Type) → List (DataW H) → Bool := fun _ ds => decide (uptoBulkAll ds ≤ 1048576)
def OpenSpec.upto (s : _root_.Go.ChangeSpec) : _root_.Go.OpenSpec := { _root_.Go.OpenSpec.ofChange s with cond := some uptoSmall }

/-- 'teetotumlaw05.OctetSays', WHERE WHAT IT READS IS OF BULK AT MOST 1048576: true; the input reads as it did. -/
def octetSaysUptoRow : OpenClaim := { program := "ytcnnkgkejafeeaa", sum := "5980280247497b1e989c93111216c423a5a8b5e4b6146afab966595ba92ad508", func := "teetotum/teetotumlaw05.OctetSays", spec := "octetSays", apart := false, narrowed := true }
def OctetSaysUptoSaid : Prop := octetSaysUptoRow.holds Try.pinned (OpenSpec.upto octetSaysSpec)

/-- 'teetotumlaw05.OctetBack', WHERE WHAT IT READS IS OF BULK AT MOST 1048576: true; the input reads as it did. -/
def octetBackUptoRow : OpenClaim := { program := "ytcnnkgkejafeeaa", sum := "5980280247497b1e989c93111216c423a5a8b5e4b6146afab966595ba92ad508", func := "teetotum/teetotumlaw05.OctetBack", spec := "octetBack", apart := false, narrowed := true }
def OctetBackUptoSaid : Prop := octetBackUptoRow.holds Try.pinned (OpenSpec.upto octetBackSpec)

/-- 'teetotumlaw05.OctetVars', WHERE WHAT IT READS IS OF BULK AT MOST 1048576: true; the input reads as it did. -/
def octetVarsUptoRow : OpenClaim := { program := "ytcnnkgkejafeeaa", sum := "5980280247497b1e989c93111216c423a5a8b5e4b6146afab966595ba92ad508", func := "teetotum/teetotumlaw05.OctetVars", spec := "octetVars", apart := false, narrowed := true }
def OctetVarsUptoSaid : Prop := octetVarsUptoRow.holds Try.pinned (OpenSpec.upto octetVarsSpec)

/-- 'teetotumlaw05.OctetFew', WHERE WHAT IT READS IS OF BULK AT MOST 1048576: true; the input reads as it did. -/
def octetFewUptoRow : OpenClaim := { program := "ytcnnkgkejafeeaa", sum := "5980280247497b1e989c93111216c423a5a8b5e4b6146afab966595ba92ad508", func := "teetotum/teetotumlaw05.OctetFew", spec := "octetFew", apart := false, narrowed := true }
def OctetFewUptoSaid : Prop := octetFewUptoRow.holds Try.pinned (OpenSpec.upto octetFewSpec)

end Rows
end Go.Proofs.Ytcnnkgkejafeeaa
