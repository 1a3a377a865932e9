/-
  DERIVED. GIVEN WITH THE SEED: THE CARDS: each row of YthhameambcplhaaDoorRows.lean that lists a variable, with what it lists TIED to the program's text (the seventh form; the later family's looks); each row that meets fmt, with fmt's text TOLD by the authors' own Lean function (tested against real Go, not proved from fmt's source: count such statements apart). THE CARD IS WHAT COUNTS. Prove the row's statement (the work); the ties are given (YthhameambcplhaaDoorTie.lean); close each card by the builder's one call (the guide's Derived/Test/ToyasCard.lean, 'card_holds'). Laid BY PROGRAM, IN A SANDBOX (cutbox-door.mjs). By AI agents, Wed Nov 11 2026. No macro, syntax, notation, axiom, sorry.
-/
import Derived.Test.YthhameambcplhaaDoorRows
import GoSem.ClaimSeven
namespace Go.Proofs.YthhameambcplhaaDoor
namespace Rows

/-- THE TIED CARD OF 'teetotumlaw30.TripleFair'. -/
def tripleFairCard : Claim7 := { stood := { row := tripleFairRow, standIns := [], harness := (true, "7a2f86682762fc9068f3be056e095a77a287554c032ff25e6ee9f0d745d8adb5"), looks := false }, kinds := [], alts := [], laidByText := true, laidKinds := [.data, .data], laidTests := true, laidLooks := .later }
def TripleFairCardSaid : Prop := Claim7.holds Tryd.pinned (.plain (OpenSpec.ofChange tripleFairSpec)) tripleFairCard

/-- THE TIED CARD OF 'teetotumlaw30.TripleSpread'. -/
def tripleSpreadCard : Claim7 := { stood := { row := tripleSpreadRow, standIns := [], harness := (true, "7a2f86682762fc9068f3be056e095a77a287554c032ff25e6ee9f0d745d8adb5"), looks := false }, kinds := [], alts := [], laidByText := true, laidKinds := [.data, .data], laidTests := true, laidLooks := .later }
def TripleSpreadCardSaid : Prop := Claim7.holds Tryd.pinned (.plain (OpenSpec.ofChange tripleSpreadSpec)) tripleSpreadCard

/-- THE SECOND FORM's CARD OF 'teetotumlaw30.TripleFair'. -/
def tripleFairUptoCard : Claim7 := { stood := { row := tripleFairUptoRow, standIns := [], harness := (true, "7a2f86682762fc9068f3be056e095a77a287554c032ff25e6ee9f0d745d8adb5"), looks := false }, kinds := [], alts := [], laidByText := true, laidKinds := [.data, .data], laidTests := true, laidLooks := .later }
def TripleFairUptoCardSaid : Prop := Claim7.holds Tryd.pinned (.plain (OpenSpec.upto tripleFairSpec)) tripleFairUptoCard

/-- THE SECOND FORM's CARD OF 'teetotumlaw30.TripleSpread'. -/
def tripleSpreadUptoCard : Claim7 := { stood := { row := tripleSpreadUptoRow, standIns := [], harness := (true, "7a2f86682762fc9068f3be056e095a77a287554c032ff25e6ee9f0d745d8adb5"), looks := false }, kinds := [], alts := [], laidByText := true, laidKinds := [.data, .data], laidTests := true, laidLooks := .later }
def TripleSpreadUptoCardSaid : Prop := Claim7.holds Tryd.pinned (.plain (OpenSpec.upto tripleSpreadSpec)) tripleSpreadUptoCard
end Rows
end Go.Proofs.YthhameambcplhaaDoor
