/-
  DERIVED. GIVEN WITH THE SEED: THE CARDS: each row of YtbohghmjaadloaaDoorRows.lean that lists a variable, with what it lists TIED to the program's text (the seventh form; the later family's looks); each row that meets fmt, with fmt's text TOLD by the authors' own Lean function (tested against real Go, not proved from fmt's source: count such statements apart). THE CARD IS WHAT COUNTS. Prove the row's statement (the work); the ties are given (YtbohghmjaadloaaDoorTie.lean); close each card by the builder's one call (the guide's Derived/Test/ToyasCard.lean, 'card_holds'). Laid BY PROGRAM, IN A SANDBOX (cutbox-door.mjs). By AI agents, Wed Nov 11 2026. No macro, syntax, notation, axiom, sorry.
-/
import Derived.Test.YtbohghmjaadloaaDoorRows
import GoSem.ClaimSeven
namespace Go.Proofs.YtbohghmjaadloaaDoor
namespace Rows

/-- THE TIED CARD OF 'teetotumlaw11.SubsetBack'. -/
def subsetBackCard : Claim7 := { stood := { row := subsetBackRow, standIns := [], harness := (true, "9b610d43582665f287284bfdd4816f053bde1be64c5ad88fb60e946565e18deb"), looks := false }, kinds := [], alts := [], laidByText := true, laidKinds := [.data, .data, .data, .data], laidTests := true, laidLooks := .later }
def SubsetBackCardSaid : Prop := Claim7.holds Tryd.pinned (.plain (OpenSpec.ofChange subsetBackSpec)) subsetBackCard

/-- THE TIED CARD OF 'teetotumlaw11.SubsetHypos'. -/
def subsetHyposCard : Claim7 := { stood := { row := subsetHyposRow, standIns := [], harness := (true, "9b610d43582665f287284bfdd4816f053bde1be64c5ad88fb60e946565e18deb"), looks := false }, kinds := [], alts := [], laidByText := true, laidKinds := [.data, .data, .data, .data], laidTests := true, laidLooks := .later }
def SubsetHyposCardSaid : Prop := Claim7.holds Tryd.pinned (.plain (OpenSpec.ofChange subsetHyposSpec)) subsetHyposCard

/-- THE TIED CARD OF 'teetotumlaw11.SubsetMore'. -/
def subsetMoreCard : Claim7 := { stood := { row := subsetMoreRow, standIns := [], harness := (true, "9b610d43582665f287284bfdd4816f053bde1be64c5ad88fb60e946565e18deb"), looks := false }, kinds := [], alts := [], laidByText := true, laidKinds := [.data, .data, .data, .data], laidTests := true, laidLooks := .later }
def SubsetMoreCardSaid : Prop := Claim7.holds Tryd.pinned (.plain (OpenSpec.ofChange subsetMoreSpec)) subsetMoreCard

/-- THE TIED CARD OF 'teetotumlaw11.SubsetWalks'. -/
def subsetWalksCard : Claim7 := { stood := { row := subsetWalksRow, standIns := [], harness := (true, "9b610d43582665f287284bfdd4816f053bde1be64c5ad88fb60e946565e18deb"), looks := false }, kinds := [], alts := [], laidByText := true, laidKinds := [.data, .data, .data, .data], laidTests := true, laidLooks := .later }
def SubsetWalksCardSaid : Prop := Claim7.holds Tryd.pinned (.plain (OpenSpec.ofChange subsetWalksSpec)) subsetWalksCard

/-- THE SECOND FORM's CARD OF 'teetotumlaw11.SubsetBack'. -/
def subsetBackUptoCard : Claim7 := { stood := { row := subsetBackUptoRow, standIns := [], harness := (true, "9b610d43582665f287284bfdd4816f053bde1be64c5ad88fb60e946565e18deb"), looks := false }, kinds := [], alts := [], laidByText := true, laidKinds := [.data, .data, .data, .data], laidTests := true, laidLooks := .later }
def SubsetBackUptoCardSaid : Prop := Claim7.holds Tryd.pinned (.plain (OpenSpec.upto subsetBackSpec)) subsetBackUptoCard

/-- THE SECOND FORM's CARD OF 'teetotumlaw11.SubsetHypos'. -/
def subsetHyposUptoCard : Claim7 := { stood := { row := subsetHyposUptoRow, standIns := [], harness := (true, "9b610d43582665f287284bfdd4816f053bde1be64c5ad88fb60e946565e18deb"), looks := false }, kinds := [], alts := [], laidByText := true, laidKinds := [.data, .data, .data, .data], laidTests := true, laidLooks := .later }
def SubsetHyposUptoCardSaid : Prop := Claim7.holds Tryd.pinned (.plain (OpenSpec.upto subsetHyposSpec)) subsetHyposUptoCard

/-- THE SECOND FORM's CARD OF 'teetotumlaw11.SubsetMore'. -/
def subsetMoreUptoCard : Claim7 := { stood := { row := subsetMoreUptoRow, standIns := [], harness := (true, "9b610d43582665f287284bfdd4816f053bde1be64c5ad88fb60e946565e18deb"), looks := false }, kinds := [], alts := [], laidByText := true, laidKinds := [.data, .data, .data, .data], laidTests := true, laidLooks := .later }
def SubsetMoreUptoCardSaid : Prop := Claim7.holds Tryd.pinned (.plain (OpenSpec.upto subsetMoreSpec)) subsetMoreUptoCard

/-- THE SECOND FORM's CARD OF 'teetotumlaw11.SubsetWalks'. -/
def subsetWalksUptoCard : Claim7 := { stood := { row := subsetWalksUptoRow, standIns := [], harness := (true, "9b610d43582665f287284bfdd4816f053bde1be64c5ad88fb60e946565e18deb"), looks := false }, kinds := [], alts := [], laidByText := true, laidKinds := [.data, .data, .data, .data], laidTests := true, laidLooks := .later }
def SubsetWalksUptoCardSaid : Prop := Claim7.holds Tryd.pinned (.plain (OpenSpec.upto subsetWalksSpec)) subsetWalksUptoCard
end Rows
end Go.Proofs.YtbohghmjaadloaaDoor
