/-
  DERIVED. GIVEN WITH THE SEED: THE CARDS: each row of YtkjkmnclnedfhaaDoorRows.lean that lists a variable, with what it lists TIED to the program's text (the seventh form; the later family's looks); each row that meets fmt, with fmt's text TOLD by the authors' own Lean function (tested against real Go, not proved from fmt's source: count such statements apart). THE CARD IS WHAT COUNTS. Prove the row's statement (the work); the ties are given (YtkjkmnclnedfhaaDoorTie.lean); close each card by the builder's one call (the guide's Derived/Test/ToyasCard.lean, 'card_holds'). Laid BY PROGRAM, IN A SANDBOX (cutbox-door.mjs). By AI agents, Wed Nov 11 2026. No macro, syntax, notation, axiom, sorry.
-/
import Derived.Test.YtkjkmnclnedfhaaDoorRows
import GoSem.ClaimSeven
namespace Go.Proofs.YtkjkmnclnedfhaaDoor
namespace Rows

/-- THE TIED CARD OF 'teetotumlaw31.AirClimbs'. -/
def airClimbsCard : Claim7 := { stood := { row := airClimbsRow, standIns := [], harness := (true, "a493594947deea8112529653812c6817b0216c7fa2dc208a14a7762630aeb38d"), looks := false }, kinds := [], alts := [], laidByText := true, laidKinds := [.data, .data], laidTests := true, laidLooks := .later }
def AirClimbsCardSaid : Prop := Claim7.holds Tryd.pinned (.plain (OpenSpec.ofChange airClimbsSpec)) airClimbsCard

/-- THE SECOND FORM's CARD OF 'teetotumlaw31.AirClimbs'. -/
def airClimbsUptoCard : Claim7 := { stood := { row := airClimbsUptoRow, standIns := [], harness := (true, "a493594947deea8112529653812c6817b0216c7fa2dc208a14a7762630aeb38d"), looks := false }, kinds := [], alts := [], laidByText := true, laidKinds := [.data, .data], laidTests := true, laidLooks := .later }
def AirClimbsUptoCardSaid : Prop := Claim7.holds Tryd.pinned (.plain (OpenSpec.upto airClimbsSpec)) airClimbsUptoCard
end Rows
end Go.Proofs.YtkjkmnclnedfhaaDoor
