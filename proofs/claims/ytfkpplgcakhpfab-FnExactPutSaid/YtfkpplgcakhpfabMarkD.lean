import Derived.Test.YtfkpplgcakhpfabMarkC
/-! The laws' marks: tables. -/
namespace Go.Proofs.Ytfkpplgcakhpfab
open Go.RowKit
attribute [local go_sem] run_store_float
attribute [local go_sem ↓] Go.wp_at_zero Go.wp_at_succ

def blkOf (a : Option Addr) : Option Nat := a.map (·.block)
/-- a row that may be written -/
def RowW (w : World) (a : Option Addr) (n : Nat) : Prop := n = 0 ∨ ∃ b cur T, a = some ⟨b, 0, none⟩ ∧ w.heap[b]? = some (.cells cur T (0, 0)) ∧ n * 11 ≤ cur.size
theorem RowW.below {w w' : World} {a : Option Addr} {n : Nat} (h : RowW w a n) (hb : Below w.heap.size w w') : RowW w' a n := by
  rcases h with h | ⟨b, cur, T, e, hh, hs⟩
  · exact .inl h
  · exact .inr ⟨b, cur, T, e, (hb.block b (Array.getElem?_eq_some_iff.1 hh).1).trans hh, hs⟩
theorem RowW.of_own {N : Nat} {w : World} {a : Option Addr} {n cap : Nat} {T : TypeId} {xs : List Value} (h : w.ownsRow N T 11 (.slice a n cap) n xs) : RowW w a n := by
  obtain ⟨_, h2⟩ := h
  rcases h2 with ⟨_, h2⟩ | ⟨g, cap', cur, e, _, hh, h4, _, h6, _⟩
  · exact .inl h2
  · cases e
    exact .inr ⟨g, cur, T, rfl, hh, by rw [h6]; exact Nat.mul_le_mul_right 11 h4⟩
theorem RowW.of_row {w : World} {B n : Nat} {t : TypeId} {f : Nat → Value} (h : w.rowIs B t (n * 11) f) : RowW w (some ⟨B, 0, none⟩) n := by
  obtain ⟨c, hh, hs, _⟩ := h
  exact .inr ⟨B, c, t, rfl, hh, by omega⟩
theorem MW.tab {w wr : World} {b : Nat} {T : TypeId} {size n : Nat} {q : Nat → PD} (h : MW w wr b T size (n * 11) (fl q)) : Tab wr (some ⟨b, 0, none⟩) n q := fun hn => by
  have hl := h.lt
  obtain ⟨cur, hh, hs, hc⟩ := h.h
  refine ⟨b, 0, rfl, hl, fun i hi j hj => ?_⟩
  rw [Nat.zero_add]
  have h1 := hc (i * 11 + j) (by omega)
  rw [fl_at q i j hj, ← pCells_at _ _ hj] at h1
  have h4 : wr.cell? ⟨b, i * 11 + j, none⟩ = cur[i * 11 + j]? := by simp [World.cell?, hh]
  rw [h4, h1]

set_option maxRecDepth 100000 in
set_option maxHeartbeats 4000000 in
theorem markPairS_none (a : Option Addr) (cap : Nat) (k : Nat) (w : World) :
    Calls Try.prog 39 #[.slice a 0 cap, .int .i64 k] w fun e w' => e = .returned (.int .i64 (k : Int)) ∧ w' = w := by
  go_enter Try.func39, Try.ntmps39
  go_wp2_with fail
  go_loopw [1, 5] (fun kv iv wr => kv = .int .i64 (k : Int) ∧ iv = .int .i64 0 ∧ wr = w) (fun _ i _ => (intOf i).toNat)
  case atStart => exact ⟨rfl, rfl, rfl⟩
  case round =>
    obtain ⟨rfl, rfl, rfl⟩ := hrel
    go_wp2_with fail
    go_ret
    exact ⟨rfl, rfl⟩

set_option maxRecDepth 100000 in
set_option maxHeartbeats 4000000 in
theorem markTable_calls (a : Option Addr) (n cap : Nat) (t : Int) (k : Nat) (w : World) (hk : 0 < k) (hk2 : k + n * 11 ≤ 100000000) (hR : RowW w a n) :
    Calls Try.prog 17 #[tOf a n cap t, .int .i64 k] w fun e w' => e = .returned (.int .i64 ((k + n * 11 : Nat) : Int)) ∧ Tab w' a n (mkq k) ∧ w.grownBy w' (blkOf a) := by
  rcases hR with rfl | ⟨b, cur, T, rfl, hh, hs⟩
  · have HP : Hid (∀ w, Calls Try.prog 39 #[.slice a 0 cap, .int .i64 k] w fun e w' => e = .returned (.int .i64 (k : Int)) ∧ w' = w) := fun w => markPairS_none a cap k w
    go_enter Try.func17, Try.ntmps17
    go_wp2_with fail
    refine (HP.out _).mono ?_
    rintro e w2 ⟨rfl, rfl⟩
    go_wp2_with fail
    go_ret
    exact ⟨by simp, fun h => absurd h (Nat.lt_irrefl 0), World.grownBy_alloc _ _ _⟩
  · have hl := (Array.getElem?_eq_some_iff.1 hh).1
    have HP : Hid (Calls Try.prog 39 #[.slice (some ⟨b, 0, none⟩) n cap, .int .i64 k] (w.alloc (.cells #[.slice (some ⟨b, 0, none⟩) n cap, .int .i64 t] 34)) fun e w' => e = .returned (.int .i64 ((k + n * 11 : Nat) : Int)) ∧ MW (w.alloc (.cells #[.slice (some ⟨b, 0, none⟩) n cap, .int .i64 t] 34)) w' b T cur.size (n * 11) (fl (mkq k))) := markPairS_calls b n cap cur.size T k _ hk hk2 hs ⟨cur, (Below.heap_alloc w _ b hl).trans hh, rfl⟩
    clear hh hs
    go_enter Try.func17, Try.ntmps17
    go_wp2_with fail
    refine Calls.mono HP.out ?_
    rintro e w2 ⟨rfl, hM⟩
    have HM : Hid _ := hM
    clear hM
    go_wp2_with fail
    go_ret
    exact ⟨rfl, HM.out.tab, grown_trans (World.grownBy_alloc w _ _) HM.out.g⟩

set_option maxRecDepth 100000 in
set_option maxHeartbeats 4000000 in
theorem heldTable_calls (a : Option Addr) (n cap : Nat) (t : Int) (k : Nat) (w : World) (hk : 0 < k) (hk2 : k + n * 11 ≤ 100000000) (hT : Tab w a n (mkq k)) :
    Calls Try.prog 18 #[tOf a n cap t, .int .i64 k] w fun e w' => e = .returned (.int .i64 ((k + n * 11 : Nat) : Int)) ∧ Below w.heap.size w w' := by
  have HT : Hid (Tab w a n (mkq k)) := hT
  clear hT
  go_enter Try.func18, Try.ntmps18
  go_wp2_with fail
  refine (heldPairS_calls a n cap k _ hk hk2 (HT.out.alloc _)).mono ?_
  rintro e w2 ⟨rfl, hb2⟩
  have hB := below_call (below_alloc _ _) hb2
  clear hb2
  obtain ⟨m, hm⟩ : ∃ m, k + n * 11 = m := ⟨_, rfl⟩
  rw [hm]
  have Hm : Hid (k + n * 11 = m) := hm
  clear hm
  go_wp2_with fail
  go_ret
  exact ⟨by rw [Hm.out]; rfl, hB⟩
end Go.Proofs.Ytfkpplgcakhpfab
