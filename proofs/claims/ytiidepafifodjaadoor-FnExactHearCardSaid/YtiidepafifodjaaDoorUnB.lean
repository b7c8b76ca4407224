import Derived.Test.YtiidepafifodjaaDoorUnA
/-! Units: the laws' own size. -/
namespace Go.Proofs.YtiidepafifodjaaDoor
open Go.RowKit
attribute [local go_sem] run_store_float

/-- what a size says -/
def SzSays (left v : Int) (ok : Prop) : Prop := v = -1 ∨ (0 ≤ v ∧ v ≤ left ∧ ok)

set_option maxRecDepth 100000 in
set_option maxHeartbeats 4000000 in
theorem szStringS_calls (L : Nat) (a : Option Addr) (n cap : Nat) (q : Nat → ByteArray) (left : Int) (w : World) (h0 : 0 ≤ left) (h1 : left ≤ 1048576) (hn : n ≤ maxLen) (hq : ∀ i, i < n → (q i).size ≤ maxLen) (hT : RowN 1 L w a n fun i => #[.string (q i)]) :
    Calls Tryd.prog 19 #[.slice a n cap, .int .i64 left] w fun e w' => (∃ v : Int, e = .returned (.int .i64 v) ∧ SzSays left v (n ≤ 1048576 ∧ ∀ i, i < n → (q i).size ≤ 1048576)) ∧ Below w.heap.size w w' := by
  have hQ : Hid (∀ i, i < n → (q i).size ≤ maxLen) := hq
  have HT : Hid (RowN 1 L w a n fun i => #[.string (q i)]) := hT
  clear hq hT
  unfold maxLen at hn
  by_cases c : left < n
  · go_enter Tryd.func19, Tryd.ntmps19
    go_wp2_with fail
    go_ret
    exact ⟨⟨_, rfl, .inl rfl⟩, Below.refl _ _⟩
  · go_enter Tryd.func19, Tryd.ntmps19
    go_wp2_with fail
    go_loopw [1, 5] (fun l i wr => ∃ (k : Nat) (u : Int), k ≤ n ∧ i = .int .i64 k ∧ l = .int .i64 u ∧ 0 ≤ u ∧ u ≤ left ∧ (∀ j, j < k → (q j).size ≤ 1048576) ∧ Below w.heap.size w wr) (fun _ i _ => n - (intOf i).toNat)
    case atStart => exact ⟨0, _, Nat.zero_le _, rfl, rfl, by omega, by omega, fun j hj => by omega, Below.refl _ _⟩
    case round =>
      obtain ⟨k, u, hk, rfl, rfl, u0, u1, hS, hB⟩ := hrel
      have HS : Hid (∀ j, j < k → (q j).size ≤ 1048576) := hS
      clear hS
      by_cases hkn : k < n
      · obtain ⟨b, off, rfl, _, hb, hc⟩ := cells1 HT.out hkn
        have d0 : wr.cell? ⟨b, off + k, none⟩ = some (.string (q k)) := (hB.cell (p := ⟨b, off + k, none⟩) hb).trans hc
        have hm := hQ.out k hkn
        unfold maxLen at hm
        clear hc
        by_cases cu : u < (q k).size
        · go_wp2_with fail
          go_ret
          exact ⟨⟨_, rfl, .inl rfl⟩, hB⟩
        · go_wp2_with fail
          go_roundw
          case rel => exact ⟨k + 1, u - (q k).size, by omega, by go_num, by go_num, by omega, by omega, fun j hj => by
            by_cases e : j = k
            · subst e; omega
            · exact HS.out j (by omega), hB⟩
          case measure => simp [intOf]; omega
      · go_wp2_with fail
        go_ret
        exact ⟨⟨_, rfl, .inr ⟨by omega, by omega, by omega, fun i hi => HS.out i (by omega)⟩⟩, hB⟩

end Go.Proofs.YtiidepafifodjaaDoor
