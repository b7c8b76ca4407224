import Derived.Test.YtiidepafifodjabInA
/-! Inputs: when one is valid, by the specification and by the program. -/
namespace Go.Proofs.Ytiidepafifodjab
open Go.RowKit
attribute [local go_sem] run_store_float
attribute [local go_sem ↓] Go.wp_at_zero Go.wp_at_succ

def lstOk (n : Nat) (q : Nat → ByteArray) : Prop := n ≤ 200 ∧ ∀ i, i < n → (q i).size ≤ 4000
def numOk (d : ID) : Prop := (0 ≤ d.t ∧ d.t ≤ 5000) ∧ (1 ≤ d.d ∧ d.d ≤ 60) ∧ (0 ≤ d.c ∧ d.c ≤ 20000)
/-- an input is valid -/
def okI (d : ID) : Prop := lstOk d.an d.a ∧ lstOk d.ln d.l ∧ numOk d
def InSays (d : ID) (e : Ending) : Prop := ∃ b, e = .returned (.bool b) ∧ (b = true ↔ okI d)
theorem InSays.no {d : ID} (h : ¬ okI d) : InSays d (.returned (.bool false)) := ⟨_, rfl, by simp [h]⟩
theorem InSays.num {d : ID} {b : Bool} (h : lstOk d.an d.a) (h' : lstOk d.ln d.l) (e : b = true ↔ numOk d) : InSays d (.returned (.bool b)) := ⟨_, rfl, e.trans ⟨fun k => ⟨h, h', k⟩, fun k => k.2.2⟩⟩

abbrev inW (w : World) (d : ID) (x : IA) : World := w.alloc (.cells (inC d x) 60)

set_option maxRecDepth 100000 in
set_option maxHeartbeats 4000000 in
theorem specInputOk_calls (L : Nat) (d : ID) (x : IA) (w : World) (hs : d.sm) (hT : InAt L w d x) :
    Calls Try.prog 29 #[inV d x] w fun e w' => InSays d e ∧ Below w.heap.size w w' := by
  have HT : Hid (InAt L w d x) := hT
  have HS : Hid d.sm := hs
  have ha := hs.an
  have hl := hs.ln
  clear hT hs
  obtain ⟨aa, ac, la, lc⟩ := x
  by_cases c1 : 200 < d.an
  · go_enter Try.func29, Try.ntmps29
    go_wp2_with fail
    go_ret
    exact ⟨InSays.no fun h => by have := h.1.1; omega, below_alloc _ _⟩
  · by_cases c2 : 200 < d.ln
    · go_enter Try.func29, Try.ntmps29
      go_wp2_with fail
      go_ret
      exact ⟨InSays.no fun h => by have := h.2.1.1; omega, below_alloc _ _⟩
    · go_enter Try.func29, Try.ntmps29
      go_wp2_with fail
      go_loopw [20] (fun i wr => ∃ (k : Nat), k ≤ d.an ∧ i = .int .i64 k ∧ Hid (∀ j, j < k → (d.a j).size ≤ 4000) ∧ wr = inW w d ⟨aa, ac, la, lc⟩) (fun i _ => d.an - (intOf i).toNat)
      case atStart => exact ⟨0, Nat.zero_le _, rfl, fun j hj => by omega, rfl⟩
      case round =>
        obtain ⟨k, hk, rfl, HK, rfl⟩ := hrel
        by_cases hkn : k < d.an
        · obtain ⟨b, off, rfl, _, hb, d0⟩ := cells1 (HT.out.alloc (.cells (inC d ⟨aa, ac, la, lc⟩) 60)).1 hkn
          have hz := HS.out.a k hkn
          by_cases c3 : 4000 < (d.a k).size
          · go_wp2_with fail
            go_ret
            exact ⟨InSays.no fun h => by have := h.1.2 k hkn; omega, below_alloc _ _⟩
          · go_wp2_with fail
            go_roundw
            case rel => exact ⟨k + 1, by omega, by go_num, fun j hj => by
              by_cases e : j = k
              · subst e; omega
              · exact HK.out j (by omega), by first | rfl | trivial⟩
            case measure => simp [intOf]; omega
        · obtain rfl : k = d.an := by omega
          have HLa : Hid (lstOk d.an d.a) := ⟨by omega, HK.out⟩
          go_wp2_with fail
          go_loopw [31] (fun i wr => ∃ (k : Nat), k ≤ d.ln ∧ i = .int .i64 k ∧ Hid (∀ j, j < k → (d.l j).size ≤ 4000) ∧ wr = inW w d ⟨aa, ac, la, lc⟩) (fun i _ => d.ln - (intOf i).toNat)
          case atStart => exact ⟨0, Nat.zero_le _, rfl, fun j hj => by omega, rfl⟩
          case round =>
            obtain ⟨m, hm, rfl, HM, rfl⟩ := hrel
            by_cases hmn : m < d.ln
            · obtain ⟨b, off, rfl, _, hb, d0⟩ := cells1 (HT.out.alloc (.cells (inC d ⟨aa, ac, la, lc⟩) 60)).2 hmn
              have hz := HS.out.l m hmn
              by_cases c3 : 4000 < (d.l m).size
              · go_wp2_with fail
                go_ret
                exact ⟨InSays.no fun h => by have := h.2.1.2 m hmn; omega, below_alloc _ _⟩
              · go_wp2_with fail
                go_roundw
                case rel => exact ⟨m + 1, by omega, by go_num, fun j hj => by
                  by_cases e : j = m
                  · subst e; omega
                  · exact HM.out j (by omega), by first | rfl | trivial⟩
                case measure => simp [intOf]; omega
            · obtain rfl : m = d.ln := by omega
              have HLl : Hid (lstOk d.ln d.l) := ⟨by omega, HM.out⟩
              go_wp2_with fail
              all_goals go_ret
              all_goals exact ⟨InSays.num HLa.out HLl.out (by unfold numOk; simp [*] <;> (intros; omega)), below_alloc _ _⟩
end Go.Proofs.Ytiidepafifodjab
