/-
  DERIVED. GIVEN WITH THE SEED: THE CARDS: each row of YtdialodjllpgaaaGreatDoorRows.lean that lists a variable, with what it lists TIED to the program's text (the seventh form; the later family's looks); each row that meets fmt, with fmt's text TOLD by the authors' own Lean function (tested against real Go, not proved from fmt's source: count such statements apart). THE CARD IS WHAT COUNTS. Prove the row's statement (the work); the ties are given (YtdialodjllpgaaaGreatDoorTie.lean); close each card by the builder's one call (the guide's Derived/Test/ToyasCard.lean, 'card_holds'). Laid BY PROGRAM, IN A SANDBOX (cutbox-door.mjs). By AI agents, Wed Nov 11 2026. No macro, syntax, notation, axiom, sorry.
-/
import Derived.Test.YtdialodjllpgaaaGreatDoorRows
import GoSem.ClaimSeven
namespace Go.Proofs.YtdialodjllpgaaaGreatDoor
namespace Rows

/-- THE TIED CARD OF 'laws.FnCounting'. -/
def fnCountingCard : Claim7 := { stood := { row := fnCountingRow, standIns := [], harness := (true, "9cccac4a5840ae2ccf4bcc8429c1a77bf24a1466517b0abfcb97410143ca10a8"), looks := true }, kinds := [], alts := [], goes := true, laidByText := true, laidKinds := [.data, .data, .data, .handle, .data, .data, .data], laidTests := true, laidLooks := .later }
def FnCountingCardSaid : Prop := Claim7.holds Tryz.pinned (.plain (OpenSpec.ofChange fnCountingSpec)) fnCountingCard

/-- THE SECOND FORM's CARD OF 'laws.FnCounting'. -/
def fnCountingUptoCard : Claim7 := { stood := { row := fnCountingUptoRow, standIns := [], harness := (true, "9cccac4a5840ae2ccf4bcc8429c1a77bf24a1466517b0abfcb97410143ca10a8"), looks := true }, kinds := [], alts := [], goes := true, laidByText := true, laidKinds := [.data, .data, .data, .handle, .data, .data, .data], laidTests := true, laidLooks := .later }
def FnCountingUptoCardSaid : Prop := Claim7.holds Tryz.pinned (.plain (OpenSpec.upto fnCountingSpec)) fnCountingUptoCard
end Rows
end Go.Proofs.YtdialodjllpgaaaGreatDoor
