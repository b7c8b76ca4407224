import Derived.Test.YtiidepafifodjaaDoorHrR
/-! Marks on records of one's own, and the marks held. -/
namespace Go.Proofs.YtiidepafifodjaaDoor
open Go.RowKit
attribute [local go_sem] run_store_float
attribute [local go_sem ↓] Go.wp_at_zero Go.wp_at_succ

/-- the mark of a record's cell -/
def mkV (k : Int) (m : Nat) : Value := if m % 5 = 4 then .string (mtT (k + (m : Int))) else .int .i64 (k + (m : Int))
theorem mkV_i {k : Int} {m j : Nat} (hj : j < 4) (e : Int) (he : e = k + ((m * 5 + j : Nat) : Int)) : mkV k (m * 5 + j) = .int .i64 e := by
  unfold mkV
  rw [if_neg (by omega), he]
theorem mkV_s {k : Int} {m : Nat} (e : Int) (he : e = k + ((m * 5 + 4 : Nat) : Int)) : mkV k (m * 5 + 4) = .string (mtT e) := by
  unfold mkV
  rw [if_pos (by omega), he]
/-- n marked records, from k on, in block g -/
def MkdR (w : World) (a : Option Addr) (n : Nat) (k : Int) : Prop := 0 < n → ∃ g N f, a = some ⟨g, 0, none⟩ ∧ w.rowIs g 49 N f ∧ n * 5 ≤ N ∧ ∀ m, m < n * 5 → f m = mkV k m

set_option maxRecDepth 100000 in
set_option maxHeartbeats 4000000 in
theorem markRecS_own (g n cap N : Nat) (f0 : Nat → Value) (k : Int) (w : World) (hn : n ≤ 1048576) (hk : 0 < k) (hk2 : k < 1000) (hnN : n * 5 ≤ N) (hR0 : w.rowIs g 49 N f0) :
    Calls Tryd.prog 27 #[.slice (some ⟨g, 0, none⟩) n cap, .int .i64 k] w fun e w' => e = .returned (.int .i64 (k + (n : Int) * 5)) ∧ (∃ f, w'.rowIs g 49 N f ∧ ∀ m, m < n * 5 → f m = mkV k m) ∧ w.grownBy w' (some g) := by
  have HR0 : Hid (w.rowIs g 49 N f0) := hR0
  clear hR0
  go_enter Tryd.func27, Tryd.ntmps27
  go_wp2_with fail
  go_loopw [1, 5] (fun kv i wr => ∃ (m : Nat) (f : Nat → Value), m ≤ n ∧ kv = .int .i64 (k + (m : Int) * 5) ∧ i = .int .i64 m ∧ Hid (wr.rowIs g 49 N f ∧ (∀ j, j < m * 5 → f j = mkV k j) ∧ w.grownBy wr (some g))) (fun _ i _ => n - (intOf i).toNat)
  case atStart => exact ⟨0, f0, Nat.zero_le _, by simp, rfl, HR0.out, fun j hj => by omega, World.grownBy.refl _ _⟩
  case round =>
    obtain ⟨m, f, hm, rfl, rfl, HI⟩ := hrel
    by_cases hmn : m < n
    · have g0 := HI.out.1.cell (i := m * 5) (by omega)
      have g1 := HI.out.1.cell (i := m * 5 + 1) (by omega)
      have g2 := HI.out.1.cell (i := m * 5 + 2) (by omega)
      have g3 := HI.out.1.cell (i := m * 5 + 3) (by omega)
      have g4 := HI.out.1.cell (i := m * 5 + 4) (by omega)
      have z := HI.out.1.frozen
      have HI4 : Hid (∃ f4 : Nat → Value, ((((wr.setCell ⟨g, m * 5, none⟩ (.int .i64 (k + (m : Int) * 5))).setCell ⟨g, m * 5 + 1, none⟩ (.int .i64 (k + (m : Int) * 5 + 1))).setCell ⟨g, m * 5 + 2, none⟩ (.int .i64 (k + (m : Int) * 5 + 1 + 1))).setCell ⟨g, m * 5 + 3, none⟩ (.int .i64 (k + (m : Int) * 5 + 1 + 1 + 1))).rowIs g 49 N f4 ∧ (∀ j, j < m * 5 + 4 → f4 j = mkV k j) ∧ w.grownBy ((((wr.setCell ⟨g, m * 5, none⟩ (.int .i64 (k + (m : Int) * 5))).setCell ⟨g, m * 5 + 1, none⟩ (.int .i64 (k + (m : Int) * 5 + 1))).setCell ⟨g, m * 5 + 2, none⟩ (.int .i64 (k + (m : Int) * 5 + 1 + 1))).setCell ⟨g, m * 5 + 3, none⟩ (.int .i64 (k + (m : Int) * 5 + 1 + 1 + 1))) (some g)) := by
        obtain ⟨h1, h2, h3⟩ := HI.out
        refine ⟨_, (((h1.set _ _).set _ _).set _ _).set _ _, fun j hj => ?_, grownBy_tr1 (grownBy_tr1 (grownBy_tr1 (grownBy_tr1 h3 (grownBy_set1 _ _ _ _)) (grownBy_set1 _ _ _ _)) (grownBy_set1 _ _ _ _)) (grownBy_set1 _ _ _ _)⟩
        by_cases c3 : j = m * 5 + 3
        · subst c3; rw [if_pos rfl]; exact (mkV_i (by omega) _ (by omega)).symm
        rw [if_neg c3]
        by_cases c2 : j = m * 5 + 2
        · subst c2; rw [if_pos rfl]; exact (mkV_i (by omega) _ (by omega)).symm
        rw [if_neg c2]
        by_cases c1 : j = m * 5 + 1
        · subst c1; rw [if_pos rfl]; exact (mkV_i (by omega) _ (by omega)).symm
        rw [if_neg c1]
        by_cases c0 : j = m * 5
        · subst c0; rw [if_pos rfl]; exact (mkV_i (j := 0) (by omega) _ (by omega)).symm
        rw [if_neg c0]
        exact h2 j (by omega)
      have kk1 : 0 < k + (m : Int) * 5 + 1 + 1 + 1 + 1 := by omega
      have kk2 : k + (m : Int) * 5 + 1 + 1 + 1 + 1 < 9223372036854775807 := by omega
      clear HI
      go_wp2_with (go_at_call 42; refine (markText_calls _ _ kk1 (by omega)).mono ?_; rintro e w2 ⟨rfl, hb2⟩; have HI2 : Hid (∃ f4 : Nat → Value, w2.rowIs g 49 N f4 ∧ (∀ j, j < m * 5 + 4 → f4 j = mkV k j) ∧ w.grownBy w2 (some g)) := (by obtain ⟨f4, h1, h2, h3⟩ := HI4.out; exact ⟨f4, h1.of_block (hb2.block _ h1.lt), h2, grownBy_tr1 h3 (gby_lo _ hb2)⟩); clear HI4 hb2 g0 g1 g2 g3 g4 z; obtain ⟨f4, hf4⟩ := HI2.out; have HI5 : Hid (w2.rowIs g 49 N f4 ∧ (∀ j, j < m * 5 + 4 → f4 j = mkV k j) ∧ w.grownBy w2 (some g)) := hf4; clear hf4 HI2; have g4 := HI5.out.1.cell (i := m * 5 + 4) (by omega); have z := HI5.out.1.frozen)
      have HI3 : Hid (∃ f' : Nat → Value, (w2.setCell ⟨g, m * 5 + 4, none⟩ (.string (mtT (k + (m : Int) * 5 + 1 + 1 + 1 + 1)))).rowIs g 49 N f' ∧ (∀ j, j < (m + 1) * 5 → f' j = mkV k j) ∧ w.grownBy (w2.setCell ⟨g, m * 5 + 4, none⟩ (.string (mtT (k + (m : Int) * 5 + 1 + 1 + 1 + 1)))) (some g)) := by
        obtain ⟨h1, h2, h3⟩ := HI5.out
        refine ⟨_, h1.set _ _, fun j hj => ?_, grownBy_tr1 h3 (grownBy_set1 _ _ _ _)⟩
        by_cases c0 : j = m * 5 + 4
        · subst c0; rw [if_pos rfl]; exact (mkV_s _ (by omega)).symm
        rw [if_neg c0]
        exact h2 j (by omega)
      clear g4 z HI5
      go_roundw
      case rel =>
        obtain ⟨f', h1, h2, h3⟩ := HI3.out
        exact ⟨m + 1, f', by omega, by go_num, by go_num, h1, h2, h3⟩
      case measure => simp [intOf]; omega
    · obtain rfl : m = n := by omega
      go_wp2_with fail
      go_ret
      exact ⟨rfl, ⟨f, HI.out.1, HI.out.2.1⟩, HI.out.2.2⟩

set_option maxRecDepth 100000 in
set_option maxHeartbeats 4000000 in
theorem markRecS_none (cap : Nat) (a : Option Addr) (k : Int) (w : World) :
    Calls Tryd.prog 27 #[.slice a 0 cap, .int .i64 k] w fun e w' => e = .returned (.int .i64 (k + ((0 : Nat) : Int) * 5)) ∧ w' = w := by
  go_enter Tryd.func27, Tryd.ntmps27
  go_wp2_with fail
  refine wp_loop_rounds 1 ?_
  rw [rounds_succ]; go_wp2_with fail
  go_ret
  exact ⟨by simp, rfl⟩
theorem markRecs_calls (N : Nat) (a : Option Addr) (cap : Nat) (xs : List RcD) (k : Int) (w : World) (hn : xs.length ≤ 1048576) (hk : 0 < k) (hk2 : k < 1000) (ho : hrsO N w a cap xs) :
    Calls Tryd.prog 27 #[.slice a xs.length cap, .int .i64 k] w fun e w' => e = .returned (.int .i64 (k + (xs.length : Int) * 5)) ∧ MkdR w' a xs.length k ∧ w.grownBy w' (bkO a) ∧ (∀ b, bkO a = some b → N ≤ b) := by
  have h2 := ho.2
  rcases h2 with ⟨e, h0⟩ | ⟨g, cap', cur, e, hb, hg, h1, _, h3, _⟩
  · obtain ⟨rfl, _, rfl⟩ : a = none ∧ xs.length = 0 ∧ cap = 0 := by simpa using e
    rw [h0]
    exact (markRecS_none 0 none k w).mono fun e w' ⟨he, hw⟩ => ⟨he, fun h => by omega, by rw [hw]; exact World.grownBy.refl _ _, fun b h => by cases h⟩
  · obtain ⟨rfl, rfl⟩ : a = some ⟨g, 0, none⟩ ∧ cap = cap' := by simpa using e
    have hR : w.rowIs g 49 (cap * 5) (fun i => (cur[i]?).getD undef) := ⟨cur, hg, h3, fun i hi => by simp [Array.getElem?_eq_getElem (show i < cur.size by omega)]⟩
    refine (markRecS_own g xs.length cap (cap * 5) _ k w hn hk hk2 (by omega) hR).mono fun e w' ⟨he, ⟨f, hf, hm⟩, hgr⟩ => ⟨he, fun _ => ⟨g, cap * 5, f, rfl, hf, by omega, hm⟩, hgr, fun b h => by cases h; exact hb⟩

set_option maxRecDepth 100000 in
set_option maxHeartbeats 4000000 in
theorem heldRecS_calls (a : Option Addr) (n cap : Nat) (k : Int) (w : World) (hn : n ≤ 1048576) (hk : 0 < k) (hk2 : k < 1000) (hT : MkdR w a n k) :
    Calls Tryd.prog 33 #[.slice a n cap, .int .i64 k] w fun e w' => e = .returned (.int .i64 (k + (n : Int) * 5)) ∧ Below w.heap.size w w' := by
  have HT : Hid (MkdR w a n k) := hT
  clear hT
  go_enter Tryd.func33, Tryd.ntmps33
  go_wp2_with fail
  go_loopw [1, 5] (fun kv i wr => ∃ m : Nat, m ≤ n ∧ kv = .int .i64 (k + (m : Int) * 5) ∧ i = .int .i64 m ∧ Hid (Below w.heap.size w wr)) (fun _ i _ => n - (intOf i).toNat)
  case atStart => exact ⟨0, Nat.zero_le _, by simp, rfl, Below.refl _ _⟩
  case round =>
    obtain ⟨m, hm, rfl, rfl, HB⟩ := hrel
    by_cases hmn : m < n
    · obtain ⟨g, N, f, rfl, hR, hN, hf⟩ := HT.out (by omega)
      have HR : Hid (w.rowIs g 49 N f) := hR
      have HF : Hid (∀ m, m < n * 5 → f m = mkV k m) := hf
      have HRr : Hid (wr.rowIs g 49 N f) := HR.out.of_block (HB.out.block _ HR.out.lt)
      have d0 := HRr.out.cell (i := m * 5) (by omega)
      have d1 := HRr.out.cell (i := m * 5 + 1) (by omega)
      have d2 := HRr.out.cell (i := m * 5 + 2) (by omega)
      have d3 := HRr.out.cell (i := m * 5 + 3) (by omega)
      rw [HF.out _ (by omega), show mkV k (m * 5) = .int .i64 (k + (m : Int) * 5) from mkV_i (j := 0) (by omega) _ (by omega)] at d0
      rw [HF.out _ (by omega), mkV_i (by omega) (k + (m : Int) * 5 + 1) (by omega)] at d1
      rw [HF.out _ (by omega), mkV_i (by omega) (k + (m : Int) * 5 + 1 + 1) (by omega)] at d2
      rw [HF.out _ (by omega), mkV_i (by omega) (k + (m : Int) * 5 + 1 + 1 + 1) (by omega)] at d3
      have HSs : Hid (∀ w', Below wr.heap.size wr w' → w'.cell? ⟨g, m * 5 + 4, none⟩ = some (.string (mtT (k + (m : Int) * 5 + 1 + 1 + 1 + 1)))) := fun w' hw => by
        have h := (HRr.out.of_block (hw.block _ HRr.out.lt)).cell (i := m * 5 + 4) (by omega)
        rw [HF.out _ (by omega), mkV_s (k + (m : Int) * 5 + 1 + 1 + 1 + 1) (by omega)] at h
        exact h
      have kk1 : 0 < k + (m : Int) * 5 + 1 + 1 + 1 + 1 := by omega
      have kk2 : k + (m : Int) * 5 + 1 + 1 + 1 + 1 < 9223372036854775807 := by omega
      clear hR hf
      go_wp2_with fail
      clear d0 d1 d2 d3
      go_region_held3 (fun w' => w'.cell? ⟨g, m * 5 + 4, none⟩ = some (.string (mtT (k + (m : Int) * 5 + 1 + 1 + 1 + 1)))) (first | (with_reducible exact HSs.out _ HB2.out) | (with_reducible exact HSs.out _ (Below.refl _ _).drew)) (first | (go_at_call 42; refine (markText_calls _ _ kk1 (by omega)).mono ?_; rintro e w2 ⟨rfl, hb2⟩; have HB2 : Hid (Below wr.heap.size wr w2) := (Below.refl _ _).drew.trans hb2; clear hb2))
      all_goals go_wp2_with fail
      all_goals go_roundw
      case rel => exact ⟨m + 1, by omega, by go_num, by go_num, below_call HB.out HB2.out⟩
      case measure => simp [intOf]; omega
    · obtain rfl : m = n := by omega
      go_wp2_with fail
      go_ret
      exact ⟨rfl, HB.out⟩
end Go.Proofs.YtiidepafifodjaaDoor
