/-
  NARROWER THAN 'FOR EVERY INPUT', by the rows' own cells (each row's printed sentence says how): HypoSays: laid · HypoFewer: laid · HypoTrue: laid · HypoMore: laid · HypoParts: laid.
  DERIVED. THE GIVEN ROWS OF THIS SEAT. 5 by the template 'for every input the law returns true; each argument reads behind the call as it read before'; 0 by the template 'total and deterministic' (their statements: YtaooigldchojcaaDoorTotals.lean).
  GIVEN WITH THE SEED: the statements are not yours to turn. If you find one false, say at which input.
  Laid BY PROGRAM, IN A SANDBOX (cutbox-rows.mjs): the forced cells as the released guide's own fill.sh prints them over the translation 205c762a66a73ce9… (all of the seat's roots in one cut). By AI agents, Wed Nov 11 2026. No macro, syntax, notation, axiom, sorry.
-/
import Derived.Test.YtaooigldchojcaaDoorChecked
import GoSem.Claim
import GoSem.ClaimJoined
import GoSem.ClaimMapViews
import Derived.JoinedTies
import Derived.KernelRfl
namespace Go.Proofs.YtaooigldchojcaaDoor
/- THE CELL 'sum', in the pinned program and in every row, IS THE sha256 OF THE DUMP (.gsa) THAT YtaooigldchojcaaDoorProg.lean LOADS. Nothing in Lean hashes anything: it is a label: what it is worth is what the hold of that sum in a sandbox is worth. -/
noncomputable def Tryd.pinned : Pinned := { name := "ytaooigldchojcaadoor", sum := "205c762a66a73ce927be4db2b1638fc1b77f8265f138af12876393ef42a274ac", checked := Tryd.checked }
namespace Rows
def none {H : Type} : Left H := { results := [], args := [] }

/- WHAT THE LISTED PACKAGE-LEVEL VARIABLES READ AS WHEN THE CALL BEGINS. Each datum BY PROGRAM (the guide's laid-datum.mjs) off the statement by which the dump's own 'gosem.cut.vars' lays the variable. In a bare row this is a premise. The card (YtaooigldchojcaaDoorCards.lean) ties it to the program's text. -/
def laid_teetotum_geom_pairs {H : Type} : DataW H := .agg [.agg [.lit (.int .i64 0), .lit (.int .i64 1)], .agg [.lit (.int .i64 0), .lit (.int .i64 2)], .agg [.lit (.int .i64 0), .lit (.int .i64 3)], .agg [.lit (.int .i64 0), .lit (.int .i64 4)], .agg [.lit (.int .i64 0), .lit (.int .i64 5)], .agg [.lit (.int .i64 1), .lit (.int .i64 2)], .agg [.lit (.int .i64 1), .lit (.int .i64 3)], .agg [.lit (.int .i64 1), .lit (.int .i64 4)], .agg [.lit (.int .i64 1), .lit (.int .i64 5)], .agg [.lit (.int .i64 2), .lit (.int .i64 3)], .agg [.lit (.int .i64 2), .lit (.int .i64 4)], .agg [.lit (.int .i64 2), .lit (.int .i64 5)], .agg [.lit (.int .i64 3), .lit (.int .i64 4)], .agg [.lit (.int .i64 3), .lit (.int .i64 5)], .agg [.lit (.int .i64 4), .lit (.int .i64 5)]]
def laid_math_bits_deBruijn32tab {H : Type} : DataW H := .agg [.lit (.int .u8 0), .lit (.int .u8 1), .lit (.int .u8 28), .lit (.int .u8 2), .lit (.int .u8 29), .lit (.int .u8 14), .lit (.int .u8 24), .lit (.int .u8 3), .lit (.int .u8 30), .lit (.int .u8 22), .lit (.int .u8 20), .lit (.int .u8 15), .lit (.int .u8 25), .lit (.int .u8 17), .lit (.int .u8 4), .lit (.int .u8 8), .lit (.int .u8 31), .lit (.int .u8 27), .lit (.int .u8 13), .lit (.int .u8 23), .lit (.int .u8 21), .lit (.int .u8 19), .lit (.int .u8 16), .lit (.int .u8 7), .lit (.int .u8 26), .lit (.int .u8 12), .lit (.int .u8 18), .lit (.int .u8 6), .lit (.int .u8 11), .lit (.int .u8 5), .lit (.int .u8 10), .lit (.int .u8 9)]
def laid_math_bits_deBruijn64tab {H : Type} : DataW H := .agg [.lit (.int .u8 0), .lit (.int .u8 1), .lit (.int .u8 56), .lit (.int .u8 2), .lit (.int .u8 57), .lit (.int .u8 49), .lit (.int .u8 28), .lit (.int .u8 3), .lit (.int .u8 61), .lit (.int .u8 58), .lit (.int .u8 42), .lit (.int .u8 50), .lit (.int .u8 38), .lit (.int .u8 29), .lit (.int .u8 17), .lit (.int .u8 4), .lit (.int .u8 62), .lit (.int .u8 47), .lit (.int .u8 59), .lit (.int .u8 36), .lit (.int .u8 45), .lit (.int .u8 43), .lit (.int .u8 51), .lit (.int .u8 22), .lit (.int .u8 53), .lit (.int .u8 39), .lit (.int .u8 33), .lit (.int .u8 30), .lit (.int .u8 24), .lit (.int .u8 18), .lit (.int .u8 12), .lit (.int .u8 5), .lit (.int .u8 63), .lit (.int .u8 55), .lit (.int .u8 48), .lit (.int .u8 27), .lit (.int .u8 60), .lit (.int .u8 41), .lit (.int .u8 37), .lit (.int .u8 16), .lit (.int .u8 46), .lit (.int .u8 35), .lit (.int .u8 44), .lit (.int .u8 21), .lit (.int .u8 52), .lit (.int .u8 32), .lit (.int .u8 23), .lit (.int .u8 11), .lit (.int .u8 54), .lit (.int .u8 26), .lit (.int .u8 40), .lit (.int .u8 15), .lit (.int .u8 34), .lit (.int .u8 20), .lit (.int .u8 31), .lit (.int .u8 10), .lit (.int .u8 25), .lit (.int .u8 14), .lit (.int .u8 19), .lit (.int .u8 9), .lit (.int .u8 13), .lit (.int .u8 8), .lit (.int .u8 7), .lit (.int .u8 6)]
def laid_internal_strconv_uint64pow10 {H : Type} : DataW H := .agg [.lit (.int .u64 1), .lit (.int .u64 10), .lit (.int .u64 100), .lit (.int .u64 1000), .lit (.int .u64 10000), .lit (.int .u64 100000), .lit (.int .u64 1000000), .lit (.int .u64 10000000), .lit (.int .u64 100000000), .lit (.int .u64 1000000000), .lit (.int .u64 10000000000), .lit (.int .u64 100000000000), .lit (.int .u64 1000000000000), .lit (.int .u64 10000000000000), .lit (.int .u64 100000000000000), .lit (.int .u64 1000000000000000), .lit (.int .u64 10000000000000000), .lit (.int .u64 100000000000000000), .lit (.int .u64 1000000000000000000), .lit (.int .u64 10000000000000000000)]

/-- 'teetotumlaw23.HypoSays': WHATEVER THE INPUT: true; the input reads as it did. -/
def hypoSaysSpec : ChangeSpec := { name := "hypoSays", fn := fun _ => fun
  | [d1, d2, d3] => { results := [.lit (.bool true)], args := [d1, d2, d3] }
  | _ => none }
def hypoSaysRow : OpenClaim := { program := "ytaooigldchojcaadoor", sum := "205c762a66a73ce927be4db2b1638fc1b77f8265f138af12876393ef42a274ac", func := "teetotum/teetotumlaw23.HypoSays", spec := "hypoSays", named := ["teetotum/geom.pairs"], apart := false, laid := [("teetotum/geom.pairs", laid_teetotum_geom_pairs)] }
def HypoSaysSaid : Prop := hypoSaysRow.holds Tryd.pinned (OpenSpec.ofChange hypoSaysSpec)

/-- ITS FALSE NEIGHBOUR: 'it returns false'. Refute it at one input. -/
def hypoSaysWrong : ChangeSpec := { name := "hypoSays", fn := fun _ => fun
  | [d1, d2, d3] => { results := [.lit (.bool false)], args := [d1, d2, d3] }
  | _ => none }
def HypoSaysWrongFalsely : Prop := hypoSaysRow.holds Tryd.pinned (OpenSpec.ofChange hypoSaysWrong)

/-- 'teetotumlaw23.HypoFewer': WHATEVER THE INPUT: true; the input reads as it did. -/
def hypoFewerSpec : ChangeSpec := { name := "hypoFewer", fn := fun _ => fun
  | [d1, d2, d3] => { results := [.lit (.bool true)], args := [d1, d2, d3] }
  | _ => none }
def hypoFewerRow : OpenClaim := { program := "ytaooigldchojcaadoor", sum := "205c762a66a73ce927be4db2b1638fc1b77f8265f138af12876393ef42a274ac", func := "teetotum/teetotumlaw23.HypoFewer", spec := "hypoFewer", named := ["teetotum/geom.pairs"], apart := false, laid := [("teetotum/geom.pairs", laid_teetotum_geom_pairs)] }
def HypoFewerSaid : Prop := hypoFewerRow.holds Tryd.pinned (OpenSpec.ofChange hypoFewerSpec)

/-- ITS FALSE NEIGHBOUR: 'it returns false'. Refute it at one input. -/
def hypoFewerWrong : ChangeSpec := { name := "hypoFewer", fn := fun _ => fun
  | [d1, d2, d3] => { results := [.lit (.bool false)], args := [d1, d2, d3] }
  | _ => none }
def HypoFewerWrongFalsely : Prop := hypoFewerRow.holds Tryd.pinned (OpenSpec.ofChange hypoFewerWrong)

/-- 'teetotumlaw23.HypoTrue': WHATEVER THE INPUT: true; the input reads as it did. -/
def hypoTrueSpec : ChangeSpec := { name := "hypoTrue", fn := fun _ => fun
  | [d1, d2, d3] => { results := [.lit (.bool true)], args := [d1, d2, d3] }
  | _ => none }
def hypoTrueRow : OpenClaim := { program := "ytaooigldchojcaadoor", sum := "205c762a66a73ce927be4db2b1638fc1b77f8265f138af12876393ef42a274ac", func := "teetotum/teetotumlaw23.HypoTrue", spec := "hypoTrue", named := ["teetotum/geom.pairs"], apart := false, laid := [("teetotum/geom.pairs", laid_teetotum_geom_pairs)] }
def HypoTrueSaid : Prop := hypoTrueRow.holds Tryd.pinned (OpenSpec.ofChange hypoTrueSpec)

/-- ITS FALSE NEIGHBOUR: 'it returns false'. Refute it at one input. -/
def hypoTrueWrong : ChangeSpec := { name := "hypoTrue", fn := fun _ => fun
  | [d1, d2, d3] => { results := [.lit (.bool false)], args := [d1, d2, d3] }
  | _ => none }
def HypoTrueWrongFalsely : Prop := hypoTrueRow.holds Tryd.pinned (OpenSpec.ofChange hypoTrueWrong)

/-- 'teetotumlaw23.HypoMore': WHATEVER THE INPUT: true; the input reads as it did. -/
def hypoMoreSpec : ChangeSpec := { name := "hypoMore", fn := fun _ => fun
  | [d1, d2, d3] => { results := [.lit (.bool true)], args := [d1, d2, d3] }
  | _ => none }
def hypoMoreRow : OpenClaim := { program := "ytaooigldchojcaadoor", sum := "205c762a66a73ce927be4db2b1638fc1b77f8265f138af12876393ef42a274ac", func := "teetotum/teetotumlaw23.HypoMore", spec := "hypoMore", inPlace := ["internal/abi.NoEscape", "internal/bytealg.MakeNoZero"], unfollowed := true, recurses := true, named := ["teetotum/geom.pairs", "internal/strconv.uint64pow10", "math/bits.deBruijn32tab", "math/bits.deBruijn64tab"], apart := false, laid := [("math/bits.deBruijn32tab", laid_math_bits_deBruijn32tab), ("math/bits.deBruijn64tab", laid_math_bits_deBruijn64tab), ("internal/strconv.uint64pow10", laid_internal_strconv_uint64pow10), ("teetotum/geom.pairs", laid_teetotum_geom_pairs)] }
def HypoMoreSaid : Prop := hypoMoreRow.holds Tryd.pinned (OpenSpec.ofChange hypoMoreSpec)

/-- ITS FALSE NEIGHBOUR: 'it returns false'. Refute it at one input. -/
def hypoMoreWrong : ChangeSpec := { name := "hypoMore", fn := fun _ => fun
  | [d1, d2, d3] => { results := [.lit (.bool false)], args := [d1, d2, d3] }
  | _ => none }
def HypoMoreWrongFalsely : Prop := hypoMoreRow.holds Tryd.pinned (OpenSpec.ofChange hypoMoreWrong)

/-- 'teetotumlaw23.HypoParts': WHATEVER THE INPUT: true; the input reads as it did. -/
def hypoPartsSpec : ChangeSpec := { name := "hypoParts", fn := fun _ => fun
  | [d1, d2] => { results := [.lit (.bool true)], args := [d1, d2] }
  | _ => none }
def hypoPartsRow : OpenClaim := { program := "ytaooigldchojcaadoor", sum := "205c762a66a73ce927be4db2b1638fc1b77f8265f138af12876393ef42a274ac", func := "teetotum/teetotumlaw23.HypoParts", spec := "hypoParts", unfollowed := true, recurses := true, named := ["teetotum/geom.pairs"], apart := false, laid := [("teetotum/geom.pairs", laid_teetotum_geom_pairs)] }
def HypoPartsSaid : Prop := hypoPartsRow.holds Tryd.pinned (OpenSpec.ofChange hypoPartsSpec)

/-- ITS FALSE NEIGHBOUR: 'it returns false'. Refute it at one input. -/
def hypoPartsWrong : ChangeSpec := { name := "hypoParts", fn := fun _ => fun
  | [d1, d2] => { results := [.lit (.bool false)], args := [d1, d2] }
  | _ => none }
def HypoPartsWrongFalsely : Prop := hypoPartsRow.holds Tryd.pinned (OpenSpec.ofChange hypoPartsWrong)

/- THE SECOND FORM. 'bulk': how many values and letters a reading holds, each counted each time it is reached (what is shared counts as often as it is met; a slice's spare places count too). A statement '..UptoSaid' is the law's where the arguments, and the package variables that the reading takes, are together of bulk at most 1048576: NARROWER than '..Said'. Prove '..Said' where nothing that the law and all that it calls make is longer than what came in: it says more and counts as full. Else prove '..UptoSaid'. A law counts once. -/
mutual
def uptoBulk {H : Type} : DataW H → Nat
  | .lit (.string bytes) => bytes.length + 1
  | .lit _ => 1
  | .nil => 1
  | .ptr d => uptoBulk d + 1
  | .slice elems spare => uptoBulkAll elems + uptoBulkAll spare + 1
  | .agg parts => uptoBulkAll parts + 1
  | .iface _ d => uptoBulk d + 1
  | .map entries => uptoBulkEntries entries + 1
  | .held _ => 1
def uptoBulkAll {H : Type} : List (DataW H) → Nat
  | [] => 0
  | d :: r => uptoBulk d + uptoBulkAll r
def uptoBulkEntries {H : Type} : List (Lit × DataW H) → Nat
  | [] => 0
  | x :: r => uptoBulkEntry x + uptoBulkEntries r
def uptoBulkEntry {H : Type} : Lit × DataW H → Nat
  | (.string bytes, d) => bytes.length + uptoBulk d + 1
  | (_, d) => uptoBulk d + 1
 end
def uptoSmall : (H : Type) → List (DataW H) → Bool := fun _ ds => decide (uptoBulkAll ds ≤ 1048576)
def OpenSpec.upto (s : _root_.Go.ChangeSpec) : _root_.Go.OpenSpec := { _root_.Go.OpenSpec.ofChange s with cond := some uptoSmall }

/-- 'teetotumlaw23.HypoSays', WHERE WHAT IT READS IS OF BULK AT MOST 1048576: true; the input reads as it did. -/
def hypoSaysUptoRow : OpenClaim := { program := "ytaooigldchojcaadoor", sum := "205c762a66a73ce927be4db2b1638fc1b77f8265f138af12876393ef42a274ac", func := "teetotum/teetotumlaw23.HypoSays", spec := "hypoSays", named := ["teetotum/geom.pairs"], apart := false, laid := [("teetotum/geom.pairs", laid_teetotum_geom_pairs)], narrowed := true }
def HypoSaysUptoSaid : Prop := hypoSaysUptoRow.holds Tryd.pinned (OpenSpec.upto hypoSaysSpec)

/-- 'teetotumlaw23.HypoFewer', WHERE WHAT IT READS IS OF BULK AT MOST 1048576: true; the input reads as it did. -/
def hypoFewerUptoRow : OpenClaim := { program := "ytaooigldchojcaadoor", sum := "205c762a66a73ce927be4db2b1638fc1b77f8265f138af12876393ef42a274ac", func := "teetotum/teetotumlaw23.HypoFewer", spec := "hypoFewer", named := ["teetotum/geom.pairs"], apart := false, laid := [("teetotum/geom.pairs", laid_teetotum_geom_pairs)], narrowed := true }
def HypoFewerUptoSaid : Prop := hypoFewerUptoRow.holds Tryd.pinned (OpenSpec.upto hypoFewerSpec)

/-- 'teetotumlaw23.HypoTrue', WHERE WHAT IT READS IS OF BULK AT MOST 1048576: true; the input reads as it did. -/
def hypoTrueUptoRow : OpenClaim := { program := "ytaooigldchojcaadoor", sum := "205c762a66a73ce927be4db2b1638fc1b77f8265f138af12876393ef42a274ac", func := "teetotum/teetotumlaw23.HypoTrue", spec := "hypoTrue", named := ["teetotum/geom.pairs"], apart := false, laid := [("teetotum/geom.pairs", laid_teetotum_geom_pairs)], narrowed := true }
def HypoTrueUptoSaid : Prop := hypoTrueUptoRow.holds Tryd.pinned (OpenSpec.upto hypoTrueSpec)

/-- 'teetotumlaw23.HypoMore', WHERE WHAT IT READS IS OF BULK AT MOST 1048576: true; the input reads as it did. -/
def hypoMoreUptoRow : OpenClaim := { program := "ytaooigldchojcaadoor", sum := "205c762a66a73ce927be4db2b1638fc1b77f8265f138af12876393ef42a274ac", func := "teetotum/teetotumlaw23.HypoMore", spec := "hypoMore", inPlace := ["internal/abi.NoEscape", "internal/bytealg.MakeNoZero"], unfollowed := true, recurses := true, named := ["teetotum/geom.pairs", "internal/strconv.uint64pow10", "math/bits.deBruijn32tab", "math/bits.deBruijn64tab"], apart := false, laid := [("math/bits.deBruijn32tab", laid_math_bits_deBruijn32tab), ("math/bits.deBruijn64tab", laid_math_bits_deBruijn64tab), ("internal/strconv.uint64pow10", laid_internal_strconv_uint64pow10), ("teetotum/geom.pairs", laid_teetotum_geom_pairs)], narrowed := true }
def HypoMoreUptoSaid : Prop := hypoMoreUptoRow.holds Tryd.pinned (OpenSpec.upto hypoMoreSpec)

/-- 'teetotumlaw23.HypoParts', WHERE WHAT IT READS IS OF BULK AT MOST 1048576: true; the input reads as it did. -/
def hypoPartsUptoRow : OpenClaim := { program := "ytaooigldchojcaadoor", sum := "205c762a66a73ce927be4db2b1638fc1b77f8265f138af12876393ef42a274ac", func := "teetotum/teetotumlaw23.HypoParts", spec := "hypoParts", unfollowed := true, recurses := true, named := ["teetotum/geom.pairs"], apart := false, laid := [("teetotum/geom.pairs", laid_teetotum_geom_pairs)], narrowed := true }
def HypoPartsUptoSaid : Prop := hypoPartsUptoRow.holds Tryd.pinned (OpenSpec.upto hypoPartsSpec)

end Rows
end Go.Proofs.YtaooigldchojcaaDoor
