import Derived.Test.YtdialodjllpgaaaGreatDoorCtRow
import Derived.Test.YtdialodjllpgaaaGreatDoorZrN
/-! FnCounting: the tied card. -/
namespace Go.Proofs.YtdialodjllpgaaaGreatDoor

theorem fnCounting_card : Rows.FnCountingCardSaid := fnCounting_card_of zeroSays
end Go.Proofs.YtdialodjllpgaaaGreatDoor
