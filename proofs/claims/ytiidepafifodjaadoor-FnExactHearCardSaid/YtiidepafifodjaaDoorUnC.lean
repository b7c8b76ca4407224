import Derived.Test.YtiidepafifodjaaDoorUnB
import Derived.Test.YtiidepafifodjaaDoorHas
/-! Units: the laws' own size, of fns and units. -/
namespace Go.Proofs.YtiidepafifodjaaDoor
open Go.RowKit
attribute [local go_sem] run_store_float

/-- a cell of a block that is held -/
theorem Has.cell {w : World} {B : Nat} {A : Array Value} (h : Has w B A) (j : Nat) {v : Value} (e : A[j]? = some v) : w.cell? ⟨B, j, none⟩ = some v := (h.at j).trans e

end Go.Proofs.YtiidepafifodjaaDoor
