/-
  DERIVED. GIVEN WITH THE SEED: THE CARDS: each row of YtldbkompebefmaaDoorRows.lean that lists a variable, with what it lists TIED to the program's text (the seventh form; the later family's looks); each row that meets fmt, with fmt's text TOLD by the authors' own Lean function (tested against real Go, not proved from fmt's source: count such statements apart). THE CARD IS WHAT COUNTS. Prove the row's statement (the work); the ties are given (YtldbkompebefmaaDoorTie.lean); close each card by the builder's one call (the guide's Derived/Test/ToyasCard.lean, 'card_holds'). Laid BY PROGRAM, IN A SANDBOX (cutbox-door.mjs). By AI agents, Wed Nov 11 2026. No macro, syntax, notation, axiom, sorry.
-/
import Derived.Test.YtldbkompebefmaaDoorRows
import GoSem.ClaimSeven
namespace Go.Proofs.YtldbkompebefmaaDoor
namespace Rows

/-- THE TIED CARD OF 'teetotumlaw33.LatchSays'. -/
def latchSaysCard : Claim7 := { stood := { row := latchSaysRow, standIns := [], harness := (true, "ee2064df82c9adfbc0c122dd9449845489960123ae39e10b70498990b319b3e1"), looks := false }, kinds := [], alts := [], laidByText := true, laidKinds := [.data], laidTests := true, laidLooks := .later }
def LatchSaysCardSaid : Prop := Claim7.holds Tryd.pinned (.plain (OpenSpec.ofChange latchSaysSpec)) latchSaysCard

/-- THE TIED CARD OF 'teetotumlaw33.LatchJoins'. -/
def latchJoinsCard : Claim7 := { stood := { row := latchJoinsRow, standIns := [], harness := (true, "ee2064df82c9adfbc0c122dd9449845489960123ae39e10b70498990b319b3e1"), looks := false }, kinds := [], alts := [], laidByText := true, laidKinds := [.data], laidTests := true, laidLooks := .later }
def LatchJoinsCardSaid : Prop := Claim7.holds Tryd.pinned (.plain (OpenSpec.ofChange latchJoinsSpec)) latchJoinsCard

/-- THE TIED CARD OF 'teetotumlaw33.LatchBits'. -/
def latchBitsCard : Claim7 := { stood := { row := latchBitsRow, standIns := [], harness := (true, "ee2064df82c9adfbc0c122dd9449845489960123ae39e10b70498990b319b3e1"), looks := false }, kinds := [], alts := [], laidByText := true, laidKinds := [.data], laidTests := true, laidLooks := .later }
def LatchBitsCardSaid : Prop := Claim7.holds Tryd.pinned (.plain (OpenSpec.ofChange latchBitsSpec)) latchBitsCard

/-- THE SECOND FORM's CARD OF 'teetotumlaw33.LatchSays'. -/
def latchSaysUptoCard : Claim7 := { stood := { row := latchSaysUptoRow, standIns := [], harness := (true, "ee2064df82c9adfbc0c122dd9449845489960123ae39e10b70498990b319b3e1"), looks := false }, kinds := [], alts := [], laidByText := true, laidKinds := [.data], laidTests := true, laidLooks := .later }
def LatchSaysUptoCardSaid : Prop := Claim7.holds Tryd.pinned (.plain (OpenSpec.upto latchSaysSpec)) latchSaysUptoCard

/-- THE SECOND FORM's CARD OF 'teetotumlaw33.LatchJoins'. -/
def latchJoinsUptoCard : Claim7 := { stood := { row := latchJoinsUptoRow, standIns := [], harness := (true, "ee2064df82c9adfbc0c122dd9449845489960123ae39e10b70498990b319b3e1"), looks := false }, kinds := [], alts := [], laidByText := true, laidKinds := [.data], laidTests := true, laidLooks := .later }
def LatchJoinsUptoCardSaid : Prop := Claim7.holds Tryd.pinned (.plain (OpenSpec.upto latchJoinsSpec)) latchJoinsUptoCard

/-- THE SECOND FORM's CARD OF 'teetotumlaw33.LatchBits'. -/
def latchBitsUptoCard : Claim7 := { stood := { row := latchBitsUptoRow, standIns := [], harness := (true, "ee2064df82c9adfbc0c122dd9449845489960123ae39e10b70498990b319b3e1"), looks := false }, kinds := [], alts := [], laidByText := true, laidKinds := [.data], laidTests := true, laidLooks := .later }
def LatchBitsUptoCardSaid : Prop := Claim7.holds Tryd.pinned (.plain (OpenSpec.upto latchBitsSpec)) latchBitsUptoCard
end Rows
end Go.Proofs.YtldbkompebefmaaDoor
