/-
  DERIVED. GIVEN WITH THE SEED: THE CARDS: each row of YtaooigldchojcaaDoorRows.lean that lists a variable, with what it lists TIED to the program's text (the seventh form; the later family's looks); each row that meets fmt, with fmt's text TOLD by the authors' own Lean function (tested against real Go, not proved from fmt's source: count such statements apart). THE CARD IS WHAT COUNTS. Prove the row's statement (the work); the ties are given (YtaooigldchojcaaDoorTie.lean); close each card by the builder's one call (the guide's Derived/Test/ToyasCard.lean, 'card_holds'). Laid BY PROGRAM, IN A SANDBOX (cutbox-door.mjs). By AI agents, Wed Nov 11 2026. No macro, syntax, notation, axiom, sorry.
-/
import Derived.Test.YtaooigldchojcaaDoorRows
import GoSem.ClaimSeven
namespace Go.Proofs.YtaooigldchojcaaDoor
namespace Rows

/-- THE TIED CARD OF 'teetotumlaw23.HypoSays'. -/
def hypoSaysCard : Claim7 := { stood := { row := hypoSaysRow, standIns := [], harness := (true, "dd04360262a5f96fae8a9d87862a13b84a69c2627e696600fa466282b702b1fb"), looks := false }, kinds := [], alts := [], laidByText := true, laidKinds := [.data], laidTests := true, laidLooks := .later }
def HypoSaysCardSaid : Prop := Claim7.holds Tryd.pinned (.plain (OpenSpec.ofChange hypoSaysSpec)) hypoSaysCard

/-- THE TIED CARD OF 'teetotumlaw23.HypoFewer'. -/
def hypoFewerCard : Claim7 := { stood := { row := hypoFewerRow, standIns := [], harness := (true, "dd04360262a5f96fae8a9d87862a13b84a69c2627e696600fa466282b702b1fb"), looks := false }, kinds := [], alts := [], laidByText := true, laidKinds := [.data], laidTests := true, laidLooks := .later }
def HypoFewerCardSaid : Prop := Claim7.holds Tryd.pinned (.plain (OpenSpec.ofChange hypoFewerSpec)) hypoFewerCard

/-- THE TIED CARD OF 'teetotumlaw23.HypoTrue'. -/
def hypoTrueCard : Claim7 := { stood := { row := hypoTrueRow, standIns := [], harness := (true, "dd04360262a5f96fae8a9d87862a13b84a69c2627e696600fa466282b702b1fb"), looks := false }, kinds := [], alts := [], laidByText := true, laidKinds := [.data], laidTests := true, laidLooks := .later }
def HypoTrueCardSaid : Prop := Claim7.holds Tryd.pinned (.plain (OpenSpec.ofChange hypoTrueSpec)) hypoTrueCard

/-- THE TIED CARD OF 'teetotumlaw23.HypoMore'. -/
def hypoMoreCard : Claim7 := { stood := { row := hypoMoreRow, standIns := [], harness := (true, "dd04360262a5f96fae8a9d87862a13b84a69c2627e696600fa466282b702b1fb"), looks := false }, kinds := [], alts := [], laidByText := true, laidKinds := [.data, .data, .data, .data], laidTests := true, laidLooks := .later }
def HypoMoreCardSaid : Prop := Claim7.holds Tryd.pinned (.plain (OpenSpec.ofChange hypoMoreSpec)) hypoMoreCard

/-- THE TIED CARD OF 'teetotumlaw23.HypoParts'. -/
def hypoPartsCard : Claim7 := { stood := { row := hypoPartsRow, standIns := [], harness := (true, "dd04360262a5f96fae8a9d87862a13b84a69c2627e696600fa466282b702b1fb"), looks := false }, kinds := [], alts := [], laidByText := true, laidKinds := [.data], laidTests := true, laidLooks := .later }
def HypoPartsCardSaid : Prop := Claim7.holds Tryd.pinned (.plain (OpenSpec.ofChange hypoPartsSpec)) hypoPartsCard

/-- THE SECOND FORM's CARD OF 'teetotumlaw23.HypoSays'. -/
def hypoSaysUptoCard : Claim7 := { stood := { row := hypoSaysUptoRow, standIns := [], harness := (true, "dd04360262a5f96fae8a9d87862a13b84a69c2627e696600fa466282b702b1fb"), looks := false }, kinds := [], alts := [], laidByText := true, laidKinds := [.data], laidTests := true, laidLooks := .later }
def HypoSaysUptoCardSaid : Prop := Claim7.holds Tryd.pinned (.plain (OpenSpec.upto hypoSaysSpec)) hypoSaysUptoCard

/-- THE SECOND FORM's CARD OF 'teetotumlaw23.HypoFewer'. -/
def hypoFewerUptoCard : Claim7 := { stood := { row := hypoFewerUptoRow, standIns := [], harness := (true, "dd04360262a5f96fae8a9d87862a13b84a69c2627e696600fa466282b702b1fb"), looks := false }, kinds := [], alts := [], laidByText := true, laidKinds := [.data], laidTests := true, laidLooks := .later }
def HypoFewerUptoCardSaid : Prop := Claim7.holds Tryd.pinned (.plain (OpenSpec.upto hypoFewerSpec)) hypoFewerUptoCard

/-- THE SECOND FORM's CARD OF 'teetotumlaw23.HypoTrue'. -/
def hypoTrueUptoCard : Claim7 := { stood := { row := hypoTrueUptoRow, standIns := [], harness := (true, "dd04360262a5f96fae8a9d87862a13b84a69c2627e696600fa466282b702b1fb"), looks := false }, kinds := [], alts := [], laidByText := true, laidKinds := [.data], laidTests := true, laidLooks := .later }
def HypoTrueUptoCardSaid : Prop := Claim7.holds Tryd.pinned (.plain (OpenSpec.upto hypoTrueSpec)) hypoTrueUptoCard

/-- THE SECOND FORM's CARD OF 'teetotumlaw23.HypoMore'. -/
def hypoMoreUptoCard : Claim7 := { stood := { row := hypoMoreUptoRow, standIns := [], harness := (true, "dd04360262a5f96fae8a9d87862a13b84a69c2627e696600fa466282b702b1fb"), looks := false }, kinds := [], alts := [], laidByText := true, laidKinds := [.data, .data, .data, .data], laidTests := true, laidLooks := .later }
def HypoMoreUptoCardSaid : Prop := Claim7.holds Tryd.pinned (.plain (OpenSpec.upto hypoMoreSpec)) hypoMoreUptoCard

/-- THE SECOND FORM's CARD OF 'teetotumlaw23.HypoParts'. -/
def hypoPartsUptoCard : Claim7 := { stood := { row := hypoPartsUptoRow, standIns := [], harness := (true, "dd04360262a5f96fae8a9d87862a13b84a69c2627e696600fa466282b702b1fb"), looks := false }, kinds := [], alts := [], laidByText := true, laidKinds := [.data], laidTests := true, laidLooks := .later }
def HypoPartsUptoCardSaid : Prop := Claim7.holds Tryd.pinned (.plain (OpenSpec.upto hypoPartsSpec)) hypoPartsUptoCard
end Rows
end Go.Proofs.YtaooigldchojcaaDoor
