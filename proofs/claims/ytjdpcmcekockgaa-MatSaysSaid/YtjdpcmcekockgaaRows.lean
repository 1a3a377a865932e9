/-
  No cell of these rows narrows 'for every input' (looked for: loops, veiled, ifaces, maps, wideKeys, modest, calm, conditions, laid).
  DERIVED. THE GIVEN ROWS OF THIS SEAT. 6 by the template 'for every input the law returns true; each argument reads behind the call as it read before'; 0 by the template 'total and deterministic' (their statements: YtjdpcmcekockgaaTotals.lean).
  GIVEN WITH THE SEED: the statements are not yours to turn. If you find one false, say at which input.
  Laid BY PROGRAM, IN A SANDBOX (cutbox-rows.mjs): the forced cells as the released guide's own fill.sh prints them over the translation 1c505a445d864117… (all of the seat's roots in one cut). By AI agents, Wed Nov 11 2026. No macro, syntax, notation, axiom, sorry.
-/
import Derived.Test.YtjdpcmcekockgaaChecked
import GoSem.Claim
import GoSem.ClaimJoined
import GoSem.ClaimMapViews
import Derived.JoinedTies
import Derived.KernelRfl
namespace Go.Proofs.Ytjdpcmcekockgaa
/- THE CELL 'sum', in the pinned program and in every row, IS THE sha256 OF THE DUMP (.gsa) THAT YtjdpcmcekockgaaProg.lean LOADS. Nothing in Lean hashes anything: it is a label: what it is worth is what the hold of that sum in a sandbox is worth. -/
noncomputable def Try.pinned : Pinned := { name := "ytjdpcmcekockgaa", sum := "1c505a445d864117dccb9dcfc99c9261c2deda621aa1a2cef1e6e94ca85569ff", checked := Try.checked }
namespace Rows
def none {H : Type} : Left H := { results := [], args := [] }

/-- 'teetotumlaw08.MatAdjoins': WHATEVER THE INPUT: true; the input reads as it did. -/
def matAdjoinsSpec : ChangeSpec := { name := "matAdjoins", fn := fun _ => fun
  | [d1, d2] => { results := [.lit (.bool true)], args := [d1, d2] }
  | _ => none }
def matAdjoinsRow : OpenClaim := { program := "ytjdpcmcekockgaa", sum := "1c505a445d864117dccb9dcfc99c9261c2deda621aa1a2cef1e6e94ca85569ff", func := "teetotum/teetotumlaw08.MatAdjoins", spec := "matAdjoins", apart := false }
def MatAdjoinsSaid : Prop := matAdjoinsRow.holds Try.pinned (OpenSpec.ofChange matAdjoinsSpec)

/-- ITS FALSE NEIGHBOUR: 'it returns false'. Refute it at one input. -/
def matAdjoinsWrong : ChangeSpec := { name := "matAdjoins", fn := fun _ => fun
  | [d1, d2] => { results := [.lit (.bool false)], args := [d1, d2] }
  | _ => none }
def MatAdjoinsWrongFalsely : Prop := matAdjoinsRow.holds Try.pinned (OpenSpec.ofChange matAdjoinsWrong)

/-- 'teetotumlaw08.MatChar': WHATEVER THE INPUT: true; the input reads as it did. -/
def matCharSpec : ChangeSpec := { name := "matChar", fn := fun _ => fun
  | [d1, d2] => { results := [.lit (.bool true)], args := [d1, d2] }
  | _ => none }
def matCharRow : OpenClaim := { program := "ytjdpcmcekockgaa", sum := "1c505a445d864117dccb9dcfc99c9261c2deda621aa1a2cef1e6e94ca85569ff", func := "teetotum/teetotumlaw08.MatChar", spec := "matChar", apart := false }
def MatCharSaid : Prop := matCharRow.holds Try.pinned (OpenSpec.ofChange matCharSpec)

/-- ITS FALSE NEIGHBOUR: 'it returns false'. Refute it at one input. -/
def matCharWrong : ChangeSpec := { name := "matChar", fn := fun _ => fun
  | [d1, d2] => { results := [.lit (.bool false)], args := [d1, d2] }
  | _ => none }
def MatCharWrongFalsely : Prop := matCharRow.holds Try.pinned (OpenSpec.ofChange matCharWrong)

/-- 'teetotumlaw08.MatKernel': WHATEVER THE INPUT: true; the input reads as it did. -/
def matKernelSpec : ChangeSpec := { name := "matKernel", fn := fun _ => fun
  | [d1, d2, d3] => { results := [.lit (.bool true)], args := [d1, d2, d3] }
  | _ => none }
def matKernelRow : OpenClaim := { program := "ytjdpcmcekockgaa", sum := "1c505a445d864117dccb9dcfc99c9261c2deda621aa1a2cef1e6e94ca85569ff", func := "teetotum/teetotumlaw08.MatKernel", spec := "matKernel", apart := false }
def MatKernelSaid : Prop := matKernelRow.holds Try.pinned (OpenSpec.ofChange matKernelSpec)

/-- ITS FALSE NEIGHBOUR: 'it returns false'. Refute it at one input. -/
def matKernelWrong : ChangeSpec := { name := "matKernel", fn := fun _ => fun
  | [d1, d2, d3] => { results := [.lit (.bool false)], args := [d1, d2, d3] }
  | _ => none }
def MatKernelWrongFalsely : Prop := matKernelRow.holds Try.pinned (OpenSpec.ofChange matKernelWrong)

/-- 'teetotumlaw08.MatMore': WHATEVER THE INPUT: true; the input reads as it did. -/
def matMoreSpec : ChangeSpec := { name := "matMore", fn := fun _ => fun
  | [d1, d2, d3] => { results := [.lit (.bool true)], args := [d1, d2, d3] }
  | _ => none }
def matMoreRow : OpenClaim := { program := "ytjdpcmcekockgaa", sum := "1c505a445d864117dccb9dcfc99c9261c2deda621aa1a2cef1e6e94ca85569ff", func := "teetotum/teetotumlaw08.MatMore", spec := "matMore", apart := false }
def MatMoreSaid : Prop := matMoreRow.holds Try.pinned (OpenSpec.ofChange matMoreSpec)

/-- ITS FALSE NEIGHBOUR: 'it returns false'. Refute it at one input. -/
def matMoreWrong : ChangeSpec := { name := "matMore", fn := fun _ => fun
  | [d1, d2, d3] => { results := [.lit (.bool false)], args := [d1, d2, d3] }
  | _ => none }
def MatMoreWrongFalsely : Prop := matMoreRow.holds Try.pinned (OpenSpec.ofChange matMoreWrong)

/-- 'teetotumlaw08.MatProducts': WHATEVER THE INPUT: true; the input reads as it did. -/
def matProductsSpec : ChangeSpec := { name := "matProducts", fn := fun _ => fun
  | [d1, d2, d3] => { results := [.lit (.bool true)], args := [d1, d2, d3] }
  | _ => none }
def matProductsRow : OpenClaim := { program := "ytjdpcmcekockgaa", sum := "1c505a445d864117dccb9dcfc99c9261c2deda621aa1a2cef1e6e94ca85569ff", func := "teetotum/teetotumlaw08.MatProducts", spec := "matProducts", apart := false }
def MatProductsSaid : Prop := matProductsRow.holds Try.pinned (OpenSpec.ofChange matProductsSpec)

/-- ITS FALSE NEIGHBOUR: 'it returns false'. Refute it at one input. -/
def matProductsWrong : ChangeSpec := { name := "matProducts", fn := fun _ => fun
  | [d1, d2, d3] => { results := [.lit (.bool false)], args := [d1, d2, d3] }
  | _ => none }
def MatProductsWrongFalsely : Prop := matProductsRow.holds Try.pinned (OpenSpec.ofChange matProductsWrong)

/-- 'teetotumlaw08.MatSays': WHATEVER THE INPUT: true; the input reads as it did. -/
def matSaysSpec : ChangeSpec := { name := "matSays", fn := fun _ => fun
  | [d1, d2, d3] => { results := [.lit (.bool true)], args := [d1, d2, d3] }
  | _ => none }
def matSaysRow : OpenClaim := { program := "ytjdpcmcekockgaa", sum := "1c505a445d864117dccb9dcfc99c9261c2deda621aa1a2cef1e6e94ca85569ff", func := "teetotum/teetotumlaw08.MatSays", spec := "matSays", apart := false }
def MatSaysSaid : Prop := matSaysRow.holds Try.pinned (OpenSpec.ofChange matSaysSpec)

/-- ITS FALSE NEIGHBOUR: 'it returns false'. Refute it at one input. -/
def matSaysWrong : ChangeSpec := { name := "matSays", fn := fun _ => fun
  | [d1, d2, d3] => { results := [.lit (.bool false)], args := [d1, d2, d3] }
  | _ => none }
def MatSaysWrongFalsely : Prop := matSaysRow.holds Try.pinned (OpenSpec.ofChange matSaysWrong)

/- THE SECOND FORM. 'bulk': how many values and letters a reading holds, each counted each time it is reached (what is shared counts as often as it is met; a slice's spare places count too). A statement '..UptoSaid' is the law's where the arguments, and the package variables that the reading takes, are together of bulk at most 1048576: NARROWER than '..Said'. Prove '..Said' where nothing that the law and all that it calls make is longer than what came in: it says more and counts as full. Else prove '..UptoSaid'. A law counts once. -/
mutual
def uptoBulk {H : Type} : DataW H → Nat
  | .lit (.string bytes) => bytes.length + 1
  | .lit _ => 1
  | .nil => 1
  | .ptr d => uptoBulk d + 1
  | .slice elems spare => uptoBulkAll elems + uptoBulkAll spare + 1
  | .agg parts => uptoBulkAll parts + 1
  | .iface _ d => uptoBulk d + 1
  | .map entries => uptoBulkEntries entries + 1
  | .held _ => 1
def uptoBulkAll {H : Type} : List (DataW H) → Nat
  | [] => 0
  | d :: r => uptoBulk d + uptoBulkAll r
def uptoBulkEntries {H : Type} : List (Lit × DataW H) → Nat
  | [] => 0
  | x :: r => uptoBulkEntry x + uptoBulkEntries r
def uptoBulkEntry {H : Type} : Lit × DataW H → Nat
  | (.string bytes, d) => bytes.length + uptoBulk d + 1
  | (_, d) => uptoBulk d + 1
 end
def uptoSmall : (H : Type) → List (DataW H) → Bool := fun _ ds => decide (uptoBulkAll ds ≤ 1048576)
def OpenSpec.upto (s : _root_.Go.ChangeSpec) : _root_.Go.OpenSpec := { _root_.Go.OpenSpec.ofChange s with cond := some uptoSmall }

/-- 'teetotumlaw08.MatAdjoins', WHERE WHAT IT READS IS OF BULK AT MOST 1048576: true; the input reads as it did. -/
def matAdjoinsUptoRow : OpenClaim := { program := "ytjdpcmcekockgaa", sum := "1c505a445d864117dccb9dcfc99c9261c2deda621aa1a2cef1e6e94ca85569ff", func := "teetotum/teetotumlaw08.MatAdjoins", spec := "matAdjoins", apart := false, narrowed := true }
def MatAdjoinsUptoSaid : Prop := matAdjoinsUptoRow.holds Try.pinned (OpenSpec.upto matAdjoinsSpec)

/-- 'teetotumlaw08.MatChar', WHERE WHAT IT READS IS OF BULK AT MOST 1048576: true; the input reads as it did. -/
def matCharUptoRow : OpenClaim := { program := "ytjdpcmcekockgaa", sum := "1c505a445d864117dccb9dcfc99c9261c2deda621aa1a2cef1e6e94ca85569ff", func := "teetotum/teetotumlaw08.MatChar", spec := "matChar", apart := false, narrowed := true }
def MatCharUptoSaid : Prop := matCharUptoRow.holds Try.pinned (OpenSpec.upto matCharSpec)

/-- 'teetotumlaw08.MatKernel', WHERE WHAT IT READS IS OF BULK AT MOST 1048576: true; the input reads as it did. -/
def matKernelUptoRow : OpenClaim := { program := "ytjdpcmcekockgaa", sum := "1c505a445d864117dccb9dcfc99c9261c2deda621aa1a2cef1e6e94ca85569ff", func := "teetotum/teetotumlaw08.MatKernel", spec := "matKernel", apart := false, narrowed := true }
def MatKernelUptoSaid : Prop := matKernelUptoRow.holds Try.pinned (OpenSpec.upto matKernelSpec)

/-- 'teetotumlaw08.MatMore', WHERE WHAT IT READS IS OF BULK AT MOST 1048576: true; the input reads as it did. -/
def matMoreUptoRow : OpenClaim := { program := "ytjdpcmcekockgaa", sum := "1c505a445d864117dccb9dcfc99c9261c2deda621aa1a2cef1e6e94ca85569ff", func := "teetotum/teetotumlaw08.MatMore", spec := "matMore", apart := false, narrowed := true }
def MatMoreUptoSaid : Prop := matMoreUptoRow.holds Try.pinned (OpenSpec.upto matMoreSpec)

/-- 'teetotumlaw08.MatProducts', WHERE WHAT IT READS IS OF BULK AT MOST 1048576: true; the input reads as it did. -/
def matProductsUptoRow : OpenClaim := { program := "ytjdpcmcekockgaa", sum := "1c505a445d864117dccb9dcfc99c9261c2deda621aa1a2cef1e6e94ca85569ff", func := "teetotum/teetotumlaw08.MatProducts", spec := "matProducts", apart := false, narrowed := true }
def MatProductsUptoSaid : Prop := matProductsUptoRow.holds Try.pinned (OpenSpec.upto matProductsSpec)

/-- 'teetotumlaw08.MatSays', WHERE WHAT IT READS IS OF BULK AT MOST 1048576: true; the input reads as it did. -/
def matSaysUptoRow : OpenClaim := { program := "ytjdpcmcekockgaa", sum := "1c505a445d864117dccb9dcfc99c9261c2deda621aa1a2cef1e6e94ca85569ff", func := "teetotum/teetotumlaw08.MatSays", spec := "matSays", apart := false, narrowed := true }
def MatSaysUptoSaid : Prop := matSaysUptoRow.holds Try.pinned (OpenSpec.upto matSaysSpec)

end Rows
end Go.Proofs.Ytjdpcmcekockgaa
