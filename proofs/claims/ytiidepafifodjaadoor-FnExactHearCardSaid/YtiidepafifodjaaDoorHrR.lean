import Derived.Test.YtiidepafifodjaaDoorHrQ
/-! Marks on texts of one's own, and the marks held. -/
namespace Go.Proofs.YtiidepafifodjaaDoor
open Go.RowKit
attribute [local go_sem] run_store_float
attribute [local go_sem ↓] Go.wp_at_zero Go.wp_at_succ

/-- n marks on texts, from k on, in block g -/
def MkdT (w : World) (a : Option Addr) (n : Nat) (k : Int) : Prop := 0 < n → ∃ g N f, a = some ⟨g, 0, none⟩ ∧ w.rowIs g 9 N f ∧ n ≤ N ∧ ∀ m, m < n → f m = .string (mtT (k + (m : Int)))
theorem gby_lo {a b : World} (r : Option Nat) (h : Below a.heap.size a b) : a.grownBy b r := ⟨h.os, h.tape, h.output, h.size, fun k hk _ => h.block k hk⟩

set_option maxRecDepth 100000 in
set_option maxHeartbeats 4000000 in
theorem markStringS_own (g n cap N : Nat) (f0 : Nat → Value) (k : Int) (w : World) (hn : n ≤ 1048576) (hk : 0 < k) (hk2 : k < 100000000) (hnN : n ≤ N) (hR0 : w.rowIs g 9 N f0) :
    Calls Tryd.prog 28 #[.slice (some ⟨g, 0, none⟩) n cap, .int .i64 k] w fun e w' => e = .returned (.int .i64 (k + (n : Int))) ∧ (∃ f, w'.rowIs g 9 N f ∧ ∀ m, m < n → f m = .string (mtT (k + (m : Int)))) ∧ w.grownBy w' (some g) := by
  have HR0 : Hid (w.rowIs g 9 N f0) := hR0
  clear hR0
  go_enter Tryd.func28, Tryd.ntmps28
  go_wp2_with fail
  go_loopw [1, 5] (fun kv i wr => ∃ (m : Nat) (f : Nat → Value), m ≤ n ∧ kv = .int .i64 (k + (m : Int)) ∧ i = .int .i64 m ∧ Hid (wr.rowIs g 9 N f ∧ (∀ j, j < m → f j = .string (mtT (k + (j : Int)))) ∧ w.grownBy wr (some g))) (fun _ i _ => n - (intOf i).toNat)
  case atStart => exact ⟨0, f0, Nat.zero_le _, by simp, rfl, HR0.out, fun j hj => by omega, World.grownBy.refl _ _⟩
  case round =>
    obtain ⟨m, f, hm, rfl, rfl, HI⟩ := hrel
    by_cases hmn : m < n
    · have kk1 : 0 < k + (m : Int) := by omega
      have kk2 : k + (m : Int) < 9223372036854775807 := by omega
      have g0 := HI.out.1.cell (i := m) (by omega)
      have z := HI.out.1.frozen
      go_wp2_with (go_at_call 42; refine (markText_calls _ _ kk1 (by omega)).mono ?_; rintro e w2 ⟨rfl, hb2⟩; have HI2 : Hid (w2.rowIs g 9 N f ∧ (∀ j, j < m → f j = .string (mtT (k + (j : Int)))) ∧ w.grownBy w2 (some g)) := ⟨HI.out.1.of_block (hb2.block _ HI.out.1.lt), HI.out.2.1, grownBy_tr1 HI.out.2.2 (gby_lo _ hb2)⟩; clear HI hb2 g0 z; have g0 := HI2.out.1.cell (i := m) (by omega); have z := HI2.out.1.frozen)
      have HI3 : Hid (∃ f' : Nat → Value, (w2.setCell ⟨g, m, none⟩ (.string (mtT (k + (m : Int))))).rowIs g 9 N f' ∧ (∀ j, j < m + 1 → f' j = .string (mtT (k + (j : Int)))) ∧ w.grownBy (w2.setCell ⟨g, m, none⟩ (.string (mtT (k + (m : Int))))) (some g)) := by
        obtain ⟨h1, h2, h3⟩ := HI2.out
        refine ⟨_, h1.set _ _, fun j hj => ?_, grownBy_tr1 h3 (grownBy_set1 _ _ _ _)⟩
        by_cases c0 : j = m
        · subst c0; rw [if_pos rfl]
        rw [if_neg c0]
        exact h2 j (by omega)
      clear g0 z HI2
      go_roundw
      case rel =>
        obtain ⟨f', h1, h2, h3⟩ := HI3.out
        exact ⟨m + 1, f', by omega, by go_num, by go_num, h1, h2, h3⟩
      case measure => simp [intOf]; omega
    · obtain rfl : m = n := by omega
      go_wp2_with fail
      go_ret
      exact ⟨rfl, ⟨f, HI.out.1, HI.out.2.1⟩, HI.out.2.2⟩

set_option maxRecDepth 100000 in
set_option maxHeartbeats 4000000 in
theorem markStringS_none (cap : Nat) (a : Option Addr) (k : Int) (w : World) :
    Calls Tryd.prog 28 #[.slice a 0 cap, .int .i64 k] w fun e w' => e = .returned (.int .i64 (k + ((0 : Nat) : Int))) ∧ w' = w := by
  go_enter Tryd.func28, Tryd.ntmps28
  go_wp2_with fail
  refine wp_loop_rounds 1 ?_
  rw [rounds_succ]; go_wp2_with fail
  go_ret
  exact ⟨by simp, rfl⟩
theorem markTexts_calls (N : Nat) (a : Option Addr) (cap : Nat) (xs : List ByteArray) (k : Int) (w : World) (hn : xs.length ≤ 1048576) (hk : 0 < k) (hk2 : k < 100000000) (ho : hvsO N w a cap xs) :
    Calls Tryd.prog 28 #[.slice a xs.length cap, .int .i64 k] w fun e w' => e = .returned (.int .i64 (k + (xs.length : Int))) ∧ MkdT w' a xs.length k ∧ w.grownBy w' (bkO a) ∧ (∀ b, bkO a = some b → N ≤ b) := by
  have h2 := ho.2
  rcases h2 with ⟨e, h0⟩ | ⟨g, cap', cur, e, hb, hg, h1, _, h3, _⟩
  · obtain ⟨rfl, _, rfl⟩ : a = none ∧ xs.length = 0 ∧ cap = 0 := by simpa using e
    rw [h0]
    exact (markStringS_none 0 none k w).mono fun e w' ⟨he, hw⟩ => ⟨he, fun h => by omega, by rw [hw]; exact World.grownBy.refl _ _, fun b h => by cases h⟩
  · obtain ⟨rfl, rfl⟩ : a = some ⟨g, 0, none⟩ ∧ cap = cap' := by simpa using e
    have hR : w.rowIs g 9 (cap * 1) (fun i => (cur[i]?).getD undef) := ⟨cur, hg, h3, fun i hi => by simp [Array.getElem?_eq_getElem (show i < cur.size by omega)]⟩
    refine (markStringS_own g xs.length cap (cap * 1) _ k w hn hk hk2 (by omega) hR).mono fun e w' ⟨he, ⟨f, hf, hm⟩, hgr⟩ => ⟨he, fun _ => ⟨g, cap * 1, f, rfl, hf, by omega, hm⟩, hgr, fun b h => by cases h; exact hb⟩

set_option maxRecDepth 100000 in
set_option maxHeartbeats 4000000 in
theorem heldStringS_calls (a : Option Addr) (n cap : Nat) (k : Int) (w : World) (hn : n ≤ 1048576) (hk : 0 < k) (hk2 : k < 100000000) (hT : MkdT w a n k) :
    Calls Tryd.prog 34 #[.slice a n cap, .int .i64 k] w fun e w' => e = .returned (.int .i64 (k + (n : Int))) ∧ Below w.heap.size w w' := by
  have HT : Hid (MkdT w a n k) := hT
  clear hT
  go_enter Tryd.func34, Tryd.ntmps34
  go_wp2_with fail
  go_loopw [1, 5] (fun kv i wr => ∃ m : Nat, m ≤ n ∧ kv = .int .i64 (k + (m : Int)) ∧ i = .int .i64 m ∧ Hid (Below w.heap.size w wr)) (fun _ i _ => n - (intOf i).toNat)
  case atStart => exact ⟨0, Nat.zero_le _, by simp, rfl, Below.refl _ _⟩
  case round =>
    obtain ⟨m, hm, rfl, rfl, HB⟩ := hrel
    by_cases hmn : m < n
    · obtain ⟨g, N, f, rfl, hR, hN, hf⟩ := HT.out (by omega)
      have HR : Hid (w.rowIs g 9 N f) := hR
      have HFm : Hid (f m = .string (mtT (k + (m : Int)))) := hf m hmn
      have d0 : wr.cell? ⟨g, m, none⟩ = some (.string (mtT (k + (m : Int)))) := by
        have h := (HR.out.of_block (HB.out.block _ HR.out.lt)).cell (i := m) (by omega)
        rw [HFm.out] at h
        exact h
      have kk1 : 0 < k + (m : Int) := by omega
      have kk2 : k + (m : Int) < 9223372036854775807 := by omega
      clear hR hf
      have HSs : Hid (∀ w', Below wr.heap.size wr w' → w'.cell? ⟨g, m, none⟩ = some (.string (mtT (k + (m : Int))))) := fun w' hw => by
        have hR2 := HR.out.of_block (HB.out.block _ HR.out.lt)
        have h := (hR2.of_block (hw.block _ hR2.lt)).cell (i := m) (by omega)
        rw [HFm.out] at h
        exact h
      go_wp2_with fail
      go_region_held3 (fun w' => w'.cell? ⟨g, m, none⟩ = some (.string (mtT (k + (m : Int))))) (first | (with_reducible exact HSs.out _ HB2.out) | (with_reducible exact HSs.out _ (Below.refl _ _).drew)) (first | (go_at_call 42; refine (markText_calls _ _ kk1 (by omega)).mono ?_; rintro e w2 ⟨rfl, hb2⟩; have HB2 : Hid (Below wr.heap.size wr w2) := (Below.refl _ _).drew.trans hb2; clear hb2))
      all_goals go_wp2_with fail
      all_goals go_roundw
      case rel => exact ⟨m + 1, by omega, by go_num, by go_num, below_call HB.out HB2.out⟩
      case measure => simp [intOf]; omega
    · obtain rfl : m = n := by omega
      go_wp2_with fail
      go_ret
      exact ⟨rfl, HB.out⟩
end Go.Proofs.YtiidepafifodjaaDoor
