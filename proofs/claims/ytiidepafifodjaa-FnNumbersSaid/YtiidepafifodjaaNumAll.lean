import Derived.Test.YtiidepafifodjaaNumW
/-! FnNumbers at every row of bytes. -/
namespace Go.Proofs.Ytiidepafifodjaa
open Go.RowKit

set_option maxRecDepth 100000 in
set_option maxHeartbeats 2000000 in
theorem num_all (a0 : Option Addr) (len cap : Nat) (zs : List Int) (w : World) (h : IsRow w a0 len cap zs) :
    Calls Try.prog 4 #[.slice a0 len cap] w fun e w' => e = .returned (.bool true) ∧ Below w.heap.size w w' := by
  by_cases hl : (len : Int) ≤ 1048576
  · exact num_walk a0 len cap zs w h hl
  · clear h
    have hl' : (1048576 : Int) < (len : Int) := by omega
    go_enter Try.func4, Try.ntmps4
    go_wp2_with fail
    go_ret
    exact ⟨rfl, Below.refl _ _⟩
end Go.Proofs.Ytiidepafifodjaa
