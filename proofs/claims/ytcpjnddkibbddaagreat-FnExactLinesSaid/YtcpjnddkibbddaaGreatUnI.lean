import Derived.Test.YtcpjnddkibbddaaGreatUnH
import Derived.Test.YtcpjnddkibbddaaGreatUnS
import Derived.Test.YtcpjnddkibbddaaGreatFloor
import Derived.Deep.RegionWith
import Derived.Deep.RegionHeld3
import Derived.Deep.DrawnRows
/-! Units held against each other by the laws. -/
namespace Go.Proofs.YtcpjnddkibbddaaGreat
open Go.RowKit
attribute [local go_sem] run_store_float
attribute [local go_sem ↓] Go.wp_at_zero Go.wp_at_succ

set_option maxRecDepth 100000 in
set_option maxHeartbeats 8000000 in
theorem eqIntS_calls (L L' : Nat) (a a' : Option Addr) (n cap cap' : Nat) (r : Nat → Int) (w : World) (hn : n ≤ 1048576) (hT : RowN 1 L w a n fun i => #[.int .i64 (r i)]) (hT' : RowN 1 L' w a' n fun i => #[.int .i64 (r i)]) :
    Calls Tryz.prog 8 #[.slice a n cap, .slice a' n cap'] w fun e w' => e = .returned (.bool true) ∧ Below w.heap.size w w' := by
  have HT : Hid (RowN 1 L w a n fun i => #[.int .i64 (r i)]) := hT
  have HT' : Hid (RowN 1 L' w a' n fun i => #[.int .i64 (r i)]) := hT'
  clear hT hT'
  go_enter Tryz.func8, Tryz.ntmps8
  go_wp2_with fail
  go_loopw [5] (fun i wr => ∃ (k : Nat), k ≤ n ∧ i = .int .i64 k ∧ Below w.heap.size w wr) (fun i _ => n - (intOf i).toNat)
  case atStart => exact ⟨0, Nat.zero_le _, rfl, Below.refl _ _⟩
  case round =>
    obtain ⟨k, hk, rfl, hB⟩ := hrel
    by_cases hkn : k < n
    · obtain ⟨b, off, rfl, _, hb, d0⟩ := cells1 (HT.out.below hB) hkn
      obtain ⟨b', off', rfl, _, hb', e0⟩ := cells1 (HT'.out.below hB) hkn
      have k0 : (0 : Int) ≤ (k : Int) := by omega
      have k1 : (k : Int) < (n : Int) := by omega
      go_wp2_with fail
      go_region_with fail
      all_goals go_wp2_with fail
      all_goals go_roundw
      case rel => exact ⟨k + 1, by omega, by go_num, hB.drew⟩
      case measure => simp [intOf]; omega
      case rel => exact ⟨k + 1, by omega, by go_num, hB.drew⟩
      case measure => simp [intOf]; omega
    · go_wp2_with fail
      go_ret
      exact ⟨rfl, hB⟩

end Go.Proofs.YtcpjnddkibbddaaGreat
