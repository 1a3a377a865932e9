/-
  DERIVED. GIVEN WITH THE SEED: THE CARDS: each row of YtmenicgoabmcmaaDoorRows.lean that lists a variable, with what it lists TIED to the program's text (the seventh form; the later family's looks); each row that meets fmt, with fmt's text TOLD by the authors' own Lean function (tested against real Go, not proved from fmt's source: count such statements apart). THE CARD IS WHAT COUNTS. Prove the row's statement (the work); the ties are given (YtmenicgoabmcmaaDoorTie.lean); close each card by the builder's one call (the guide's Derived/Test/ToyasCard.lean, 'card_holds'). Laid BY PROGRAM, IN A SANDBOX (cutbox-door.mjs). By AI agents, Wed Nov 11 2026. No macro, syntax, notation, axiom, sorry.
-/
import Derived.Test.YtmenicgoabmcmaaDoorRows
import GoSem.ClaimSeven
namespace Go.Proofs.YtmenicgoabmcmaaDoor
namespace Rows

/-- THE TIED CARD OF 'teetotumlaw32.LadderSays'. -/
def ladderSaysCard : Claim7 := { stood := { row := ladderSaysRow, standIns := [], harness := (true, "fc44cb4fd7b3701fccdb209872738b5ae362c4ecfc17ae2265f0cd2fe0144ec7"), looks := false }, kinds := [], alts := [], laidByText := true, laidKinds := [.data], laidTests := true, laidLooks := .later }
def LadderSaysCardSaid : Prop := Claim7.holds Tryd.pinned (.plain (OpenSpec.ofChange ladderSaysSpec)) ladderSaysCard

/-- THE TIED CARD OF 'teetotumlaw32.LadderFalls'. -/
def ladderFallsCard : Claim7 := { stood := { row := ladderFallsRow, standIns := [], harness := (true, "fc44cb4fd7b3701fccdb209872738b5ae362c4ecfc17ae2265f0cd2fe0144ec7"), looks := false }, kinds := [], alts := [], laidByText := true, laidKinds := [.data], laidTests := true, laidLooks := .later }
def LadderFallsCardSaid : Prop := Claim7.holds Tryd.pinned (.plain (OpenSpec.ofChange ladderFallsSpec)) ladderFallsCard

/-- THE TIED CARD OF 'teetotumlaw32.LadderCauses'. -/
def ladderCausesCard : Claim7 := { stood := { row := ladderCausesRow, standIns := [], harness := (true, "fc44cb4fd7b3701fccdb209872738b5ae362c4ecfc17ae2265f0cd2fe0144ec7"), looks := false }, kinds := [], alts := [], laidByText := true, laidKinds := [.data], laidTests := true, laidLooks := .later }
def LadderCausesCardSaid : Prop := Claim7.holds Tryd.pinned (.plain (OpenSpec.ofChange ladderCausesSpec)) ladderCausesCard

/-- THE SECOND FORM's CARD OF 'teetotumlaw32.LadderSays'. -/
def ladderSaysUptoCard : Claim7 := { stood := { row := ladderSaysUptoRow, standIns := [], harness := (true, "fc44cb4fd7b3701fccdb209872738b5ae362c4ecfc17ae2265f0cd2fe0144ec7"), looks := false }, kinds := [], alts := [], laidByText := true, laidKinds := [.data], laidTests := true, laidLooks := .later }
def LadderSaysUptoCardSaid : Prop := Claim7.holds Tryd.pinned (.plain (OpenSpec.upto ladderSaysSpec)) ladderSaysUptoCard

/-- THE SECOND FORM's CARD OF 'teetotumlaw32.LadderFalls'. -/
def ladderFallsUptoCard : Claim7 := { stood := { row := ladderFallsUptoRow, standIns := [], harness := (true, "fc44cb4fd7b3701fccdb209872738b5ae362c4ecfc17ae2265f0cd2fe0144ec7"), looks := false }, kinds := [], alts := [], laidByText := true, laidKinds := [.data], laidTests := true, laidLooks := .later }
def LadderFallsUptoCardSaid : Prop := Claim7.holds Tryd.pinned (.plain (OpenSpec.upto ladderFallsSpec)) ladderFallsUptoCard

/-- THE SECOND FORM's CARD OF 'teetotumlaw32.LadderCauses'. -/
def ladderCausesUptoCard : Claim7 := { stood := { row := ladderCausesUptoRow, standIns := [], harness := (true, "fc44cb4fd7b3701fccdb209872738b5ae362c4ecfc17ae2265f0cd2fe0144ec7"), looks := false }, kinds := [], alts := [], laidByText := true, laidKinds := [.data], laidTests := true, laidLooks := .later }
def LadderCausesUptoCardSaid : Prop := Claim7.holds Tryd.pinned (.plain (OpenSpec.upto ladderCausesSpec)) ladderCausesUptoCard
end Rows
end Go.Proofs.YtmenicgoabmcmaaDoor
