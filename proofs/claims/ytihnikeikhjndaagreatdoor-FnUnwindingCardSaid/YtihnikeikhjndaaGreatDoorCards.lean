/-
  DERIVED. GIVEN WITH THE SEED: THE CARDS: each row of YtihnikeikhjndaaGreatDoorRows.lean that lists a variable, with what it lists TIED to the program's text (the seventh form; the later family's looks); each row that meets fmt, with fmt's text TOLD by the authors' own Lean function (tested against real Go, not proved from fmt's source: count such statements apart). THE CARD IS WHAT COUNTS. Prove the row's statement (the work); the ties are given (YtihnikeikhjndaaGreatDoorTie.lean); close each card by the builder's one call (the guide's Derived/Test/ToyasCard.lean, 'card_holds'). Laid BY PROGRAM, IN A SANDBOX (cutbox-door.mjs). By AI agents, Wed Nov 11 2026. No macro, syntax, notation, axiom, sorry.
-/
import Derived.Test.YtihnikeikhjndaaGreatDoorRows
import GoSem.ClaimSeven
namespace Go.Proofs.YtihnikeikhjndaaGreatDoor
namespace Rows

/-- THE TIED CARD OF 'laws.FnUnwinding'. -/
def fnUnwindingCard : Claim7 := { stood := { row := fnUnwindingRow, standIns := [], harness := (true, "ad58ef3dde83269faea5e651cc95954955b46e39e02dbd599f3d0d3120c7e354"), looks := true }, kinds := [], alts := [], goes := true, laidByText := true, laidKinds := [.handle, .data, .data, .data, .data, .data, .data], laidTests := true, laidLooks := .later }
def FnUnwindingCardSaid : Prop := Claim7.holds Tryz.pinned (.plain (OpenSpec.ofChange fnUnwindingSpec)) fnUnwindingCard

/-- THE SECOND FORM's CARD OF 'laws.FnUnwinding'. -/
def fnUnwindingUptoCard : Claim7 := { stood := { row := fnUnwindingUptoRow, standIns := [], harness := (true, "ad58ef3dde83269faea5e651cc95954955b46e39e02dbd599f3d0d3120c7e354"), looks := true }, kinds := [], alts := [], goes := true, laidByText := true, laidKinds := [.handle, .data, .data, .data, .data, .data, .data], laidTests := true, laidLooks := .later }
def FnUnwindingUptoCardSaid : Prop := Claim7.holds Tryz.pinned (.plain (OpenSpec.upto fnUnwindingSpec)) fnUnwindingUptoCard
end Rows
end Go.Proofs.YtihnikeikhjndaaGreatDoor
