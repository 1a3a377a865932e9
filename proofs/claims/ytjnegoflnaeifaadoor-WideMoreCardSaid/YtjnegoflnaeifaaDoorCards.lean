/-
  DERIVED. GIVEN WITH THE SEED: THE CARDS: each row of YtjnegoflnaeifaaDoorRows.lean that lists a variable, with what it lists TIED to the program's text (the seventh form; the later family's looks); each row that meets fmt, with fmt's text TOLD by the authors' own Lean function (tested against real Go, not proved from fmt's source: count such statements apart). THE CARD IS WHAT COUNTS. Prove the row's statement (the work); the ties are given (YtjnegoflnaeifaaDoorTie.lean); close each card by the builder's one call (the guide's Derived/Test/ToyasCard.lean, 'card_holds'). Laid BY PROGRAM, IN A SANDBOX (cutbox-door.mjs). By AI agents, Wed Nov 11 2026. No macro, syntax, notation, axiom, sorry.
-/
import Derived.Test.YtjnegoflnaeifaaDoorRows
import GoSem.ClaimSeven
namespace Go.Proofs.YtjnegoflnaeifaaDoor
namespace Rows

/-- THE TIED CARD OF 'teetotumlaw02.WideMore'. -/
def wideMoreCard : Claim7 := { stood := { row := wideMoreRow, standIns := [], harness := (true, "dba807706204c2807a4fffab0761b5e9e76def8478743653a6ff93ecae5f4f32"), looks := true }, kinds := [], alts := [], laidByText := true, laidKinds := [.data, .data, .data, .sentinel, .sentinel], laidTests := true, laidLooks := .later }
def WideMoreCardSaid : Prop := Claim7.holds Tryd.pinned (.plain (OpenSpec.ofChange wideMoreSpec)) wideMoreCard

/-- THE TIED CARD OF 'teetotumlaw02.WideTexts'. -/
def wideTextsCard : Claim7 := { stood := { row := wideTextsRow, standIns := [], harness := (true, "dba807706204c2807a4fffab0761b5e9e76def8478743653a6ff93ecae5f4f32"), looks := true }, kinds := [], alts := [], laidByText := true, laidKinds := [.data, .data, .data, .sentinel, .sentinel], laidTests := true, laidLooks := .later }
def WideTextsCardSaid : Prop := Claim7.holds Tryd.pinned (.plain (OpenSpec.ofChange wideTextsSpec)) wideTextsCard

/-- THE SECOND FORM's CARD OF 'teetotumlaw02.WideMore'. -/
def wideMoreUptoCard : Claim7 := { stood := { row := wideMoreUptoRow, standIns := [], harness := (true, "dba807706204c2807a4fffab0761b5e9e76def8478743653a6ff93ecae5f4f32"), looks := true }, kinds := [], alts := [], laidByText := true, laidKinds := [.data, .data, .data, .sentinel, .sentinel], laidTests := true, laidLooks := .later }
def WideMoreUptoCardSaid : Prop := Claim7.holds Tryd.pinned (.plain (OpenSpec.upto wideMoreSpec)) wideMoreUptoCard

/-- THE SECOND FORM's CARD OF 'teetotumlaw02.WideTexts'. -/
def wideTextsUptoCard : Claim7 := { stood := { row := wideTextsUptoRow, standIns := [], harness := (true, "dba807706204c2807a4fffab0761b5e9e76def8478743653a6ff93ecae5f4f32"), looks := true }, kinds := [], alts := [], laidByText := true, laidKinds := [.data, .data, .data, .sentinel, .sentinel], laidTests := true, laidLooks := .later }
def WideTextsUptoCardSaid : Prop := Claim7.holds Tryd.pinned (.plain (OpenSpec.upto wideTextsSpec)) wideTextsUptoCard
end Rows
end Go.Proofs.YtjnegoflnaeifaaDoor
