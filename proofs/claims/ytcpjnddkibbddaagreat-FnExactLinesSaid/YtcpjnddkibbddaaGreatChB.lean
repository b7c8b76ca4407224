import Derived.Test.YtcpjnddkibbddaaGreatImT
import Derived.Test.YtcpjnddkibbddaaGreatImL
import Derived.Test.YtcpjnddkibbddaaGreatUnJ
/-! FnExactCheckUnit: the walk. -/
namespace Go.Proofs.YtcpjnddkibbddaaGreat
open Go.RowKit
attribute [local go_sem] run_store_float
attribute [local go_sem ↓] Go.wp_at_zero Go.wp_at_succ

end Go.Proofs.YtcpjnddkibbddaaGreat
