import Derived.Test.YtcpjnddkibbddaaGreatLnS
import Derived.Test.YtcpjnddkibbddaaGreatLnY
import Derived.Test.YtcpjnddkibbddaaGreatMkA
/-! Units marked by the laws: what stays. -/
namespace Go.Proofs.YtcpjnddkibbddaaGreat
open Go.RowKit
attribute [local go_sem] run_store_float
attribute [local go_sem ↓] Go.wp_at_zero Go.wp_at_succ

set_option maxRecDepth 100000 in
set_option maxHeartbeats 4000000 in
theorem markIntS_calls (L H b n cap : Nat) (k : Int) (w : World) (hn : n ≤ 1048576) (hk : 0 < k) (hk2 : k < 9000000000000000000) (hR : LfR 1 L H w b n) :
    Calls Tryz.prog 11 #[.slice (some ⟨b, 0, none⟩) n cap, .int .i64 k] w fun e w' => e = .returned (.int .i64 (k + (n : Int) * 1)) ∧ Mk L H w w' := by
  have HR : Hid (LfR 1 L H w b n) := hR
  clear hR
  go_enter Tryz.func11, Tryz.ntmps11
  go_wp2_with fail
  go_loopw [1, 5] (fun kv i wr => ∃ m : Nat, m ≤ n ∧ kv = .int .i64 (k + (m : Int) * 1) ∧ i = .int .i64 m ∧ Hid (Mk L H w wr)) (fun _ i _ => n - (intOf i).toNat)
  case atStart => exact ⟨0, Nat.zero_le _, by simp, rfl, Mk.refl _ _ _⟩
  case round =>
    obtain ⟨m, hm, rfl, rfl, HM⟩ := hrel
    by_cases hmn : m < n
    · obtain ⟨h1, h2, h3, z, h5⟩ := (HR.out.mk HM.out) (by omega)
      obtain ⟨v0, g0, q0⟩ := h5 m (by omega)
      have HM2 : Hid (∀ v, ns v = true → Mk L H w (wr.setCell ⟨b, m, none⟩ v)) := fun v hv => HM.out.put h1 h2 ⟨v0, g0, q0⟩ hv
      clear h5
      go_wp2_with fail
      go_roundw
      case rel => exact ⟨m + 1, by omega, by go_num, by go_num, HM2.out _ rfl⟩
      case measure => simp [intOf]; omega
    · obtain rfl : m = n := by omega
      go_wp2_with fail
      go_ret
      exact ⟨rfl, HM.out⟩

set_option maxRecDepth 100000 in
set_option maxHeartbeats 4000000 in
theorem markUpS_calls (L H b n cap : Nat) (k : Int) (w : World) (hn : n ≤ 1048576) (hk : 0 < k) (hk2 : k < 9000000000000000000) (hR : LfR 2 L H w b n) :
    Calls Tryz.prog 40 #[.slice (some ⟨b, 0, none⟩) n cap, .int .i64 k] w fun e w' => e = .returned (.int .i64 (k + (n : Int) * 2)) ∧ Mk L H w w' := by
  have HR : Hid (LfR 2 L H w b n) := hR
  clear hR
  go_enter Tryz.func40, Tryz.ntmps40
  go_wp2_with fail
  go_loopw [1, 5] (fun kv i wr => ∃ m : Nat, m ≤ n ∧ kv = .int .i64 (k + (m : Int) * 2) ∧ i = .int .i64 m ∧ Hid (Mk L H w wr)) (fun _ i _ => n - (intOf i).toNat)
  case atStart => exact ⟨0, Nat.zero_le _, by simp, rfl, Mk.refl _ _ _⟩
  case round =>
    obtain ⟨m, hm, rfl, rfl, HM⟩ := hrel
    by_cases hmn : m < n
    · obtain ⟨h1, h2, h3, z, h5⟩ := (HR.out.mk HM.out) (by omega)
      obtain ⟨v0, g0, q0⟩ := h5 (m * 2) (by omega)
      obtain ⟨v1, g1, q1⟩ := h5 (m * 2 + 1) (by omega)
      have HM2 : Hid (∀ v v', ns v = true → ns v' = true → Mk L H w ((wr.setCell ⟨b, m * 2, none⟩ v).setCell ⟨b, m * 2 + 1, none⟩ v')) := fun v v' hv hv' => by
        have k1 := HM.out.put h1 h2 ⟨v0, g0, q0⟩ hv
        exact k1.put h1 h2 (((HR.out.mk k1) (by omega)).2.2.2.2 (m * 2 + 1) (by omega)) hv'
      clear h5
      go_wp2_with fail
      go_roundw
      case rel => exact ⟨m + 1, by omega, by go_num, by go_num, HM2.out _ _ rfl rfl⟩
      case measure => simp [intOf]; omega
    · obtain rfl : m = n := by omega
      go_wp2_with fail
      go_ret
      exact ⟨rfl, HM.out⟩

end Go.Proofs.YtcpjnddkibbddaaGreat
