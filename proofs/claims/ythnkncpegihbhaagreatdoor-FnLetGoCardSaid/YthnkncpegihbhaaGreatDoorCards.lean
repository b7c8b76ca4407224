/-
  DERIVED. GIVEN WITH THE SEED: THE CARDS: each row of YthnkncpegihbhaaGreatDoorRows.lean that lists a variable, with what it lists TIED to the program's text (the seventh form; the later family's looks); each row that meets fmt, with fmt's text TOLD by the authors' own Lean function (tested against real Go, not proved from fmt's source: count such statements apart). THE CARD IS WHAT COUNTS. Prove the row's statement (the work); the ties are given (YthnkncpegihbhaaGreatDoorTie.lean); close each card by the builder's one call (the guide's Derived/Test/ToyasCard.lean, 'card_holds'). Laid BY PROGRAM, IN A SANDBOX (cutbox-door.mjs). By AI agents, Wed Nov 11 2026. No macro, syntax, notation, axiom, sorry.
-/
import Derived.Test.YthnkncpegihbhaaGreatDoorRows
import GoSem.ClaimSeven
namespace Go.Proofs.YthnkncpegihbhaaGreatDoor
namespace Rows

/-- THE TIED CARD OF 'laws.FnLetGo'. -/
def fnLetGoCard : Claim7 := { stood := { row := fnLetGoRow, standIns := [], harness := (true, "a4be6448eb5d49e34acdb3fb0193da2f38591cabcd66b66ea0b5d67eb6ca84d0"), looks := true }, kinds := [], alts := [], goes := true, laidByText := true, laidKinds := [.handle, .data, .data, .data, .data, .data, .data], laidTests := true, laidLooks := .later }
def FnLetGoCardSaid : Prop := Claim7.holds Tryz.pinned (.plain (OpenSpec.ofChange fnLetGoSpec)) fnLetGoCard

/-- THE SECOND FORM's CARD OF 'laws.FnLetGo'. -/
def fnLetGoUptoCard : Claim7 := { stood := { row := fnLetGoUptoRow, standIns := [], harness := (true, "a4be6448eb5d49e34acdb3fb0193da2f38591cabcd66b66ea0b5d67eb6ca84d0"), looks := true }, kinds := [], alts := [], goes := true, laidByText := true, laidKinds := [.handle, .data, .data, .data, .data, .data, .data], laidTests := true, laidLooks := .later }
def FnLetGoUptoCardSaid : Prop := Claim7.holds Tryz.pinned (.plain (OpenSpec.upto fnLetGoSpec)) fnLetGoUptoCard
end Rows
end Go.Proofs.YthnkncpegihbhaaGreatDoor
