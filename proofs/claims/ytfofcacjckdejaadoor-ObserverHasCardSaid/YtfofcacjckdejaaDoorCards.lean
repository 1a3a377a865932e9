/-
  DERIVED. GIVEN WITH THE SEED: THE CARDS: each row of YtfofcacjckdejaaDoorRows.lean that lists a variable, with what it lists TIED to the program's text (the seventh form; the later family's looks); each row that meets fmt, with fmt's text TOLD by the authors' own Lean function (tested against real Go, not proved from fmt's source: count such statements apart). THE CARD IS WHAT COUNTS. Prove the row's statement (the work); the ties are given (YtfofcacjckdejaaDoorTie.lean); close each card by the builder's one call (the guide's Derived/Test/ToyasCard.lean, 'card_holds'). Laid BY PROGRAM, IN A SANDBOX (cutbox-door.mjs). By AI agents, Wed Nov 11 2026. No macro, syntax, notation, axiom, sorry.
-/
import Derived.Test.YtfofcacjckdejaaDoorRows
import GoSem.ClaimSeven
namespace Go.Proofs.YtfofcacjckdejaaDoor
namespace Rows

/-- THE TIED CARD OF 'teetotumlaw29.ObserverHas'. -/
def observerHasCard : Claim7 := { stood := { row := observerHasRow, standIns := [], harness := (true, "ba185006d6e37aaf3bfa4ee548562859469778e8733aa33c84c8b5849aa68218"), looks := false }, kinds := [], alts := [], laidByText := true, laidKinds := [.data, .data], laidTests := true, laidLooks := .later }
def ObserverHasCardSaid : Prop := Claim7.holds Tryd.pinned (.plain (OpenSpec.ofChange observerHasSpec)) observerHasCard

/-- THE SECOND FORM's CARD OF 'teetotumlaw29.ObserverHas'. -/
def observerHasUptoCard : Claim7 := { stood := { row := observerHasUptoRow, standIns := [], harness := (true, "ba185006d6e37aaf3bfa4ee548562859469778e8733aa33c84c8b5849aa68218"), looks := false }, kinds := [], alts := [], laidByText := true, laidKinds := [.data, .data], laidTests := true, laidLooks := .later }
def ObserverHasUptoCardSaid : Prop := Claim7.holds Tryd.pinned (.plain (OpenSpec.upto observerHasSpec)) observerHasUptoCard
end Rows
end Go.Proofs.YtfofcacjckdejaaDoor
