import Derived.Test.YtiidepafifodjabGreatFitQ
/-! The program's check of a unit: kids held against sets of kinds. -/
namespace Go.Proofs.YtiidepafifodjabGreat
open Go.RowKit
attribute [local go_sem] run_store_float
attribute [local go_sem ↓] Go.wp_at_zero Go.wp_at_succ

/-- the nodes ahead, as the visitor at F has them -/
structure AH (w : World) (F m : Nat) (nd : Nat → ND) (nas : Nat → NA) : Prop where
  at' : ∃ na nc, w.cell? ⟨F, 0, none⟩ = some (.slice na m nc) ∧ RowN 8 0 w na m (fun i => nodeC (nd i) (nas i))
theorem AH.below {w w' : World} {F m : Nat} {nd : Nat → ND} {nas : Nat → NA} (h : AH w F m nd nas) (hb : Below w.heap.size w w') : AH w' F m nd nas := by
  obtain ⟨na, nc, h1, h2⟩ := h.at'
  exact ⟨na, nc, cell_later hb h1, h2.below hb⟩
theorem kidS_in {s : Nat} {nd : Nat → ND} {m : Nat} {c : Int} {k : Nat} (h : c = k) (hk : k < m) : kidS s nd m c = setB s (nd k).k := by
  unfold kidS
  subst h
  simp [hk]
theorem kidS_out {s : Nat} {nd : Nat → ND} {m : Nat} {c : Int} (h : ¬ (0 ≤ c ∧ c < m)) : kidS s nd m c = false := by
  unfold kidS
  by_cases h0 : 0 ≤ c
  · have : ¬ c < m := fun h1 => h ⟨h0, h1⟩
    simp [this]
  · simp [h0]

set_option maxRecDepth 100000 in
set_option maxHeartbeats 4000000 in
theorem all_calls (F m : Nat) (nd : Nat → ND) (nas : Nat → NA) (a : Option Addr) (n cap : Nat) (c : Nat → Int) (s : Nat) (w : World) (hs : s < 18446744073709551616) (hn : n ≤ 1048576) (hA : AH w F m nd nas) (hT : IntsAt 0 w a n c) :
    Calls Tryz.prog 210 #[.pointer (some ⟨F, 0, none⟩), .slice a n cap, .int .u64 (s : Int)] w fun e w' => e = .returned (.bool (allB (fun i => kidS s nd m (c i)) 0 n)) ∧ w' = w := by
  have HT : Hid (RowN 1 0 w a n fun i => #[.int .i64 (c i)]) := hT
  obtain ⟨na, nc, f0, hN⟩ := hA.at'
  have HN : Hid (RowN 8 0 w na m (fun i => nodeC (nd i) (nas i))) := hN
  clear hT hA hN
  go_enter Tryz.func210, Tryz.ntmps210
  go_wp2_with fail
  go_loopw [11] (fun i wr => ∃ (k : Nat), k ≤ n ∧ i = .int .i64 k ∧ Hid (∀ j, j < k → kidS s nd m (c j) = true) ∧ wr = w) (fun i _ => n - (intOf i).toNat)
  case atStart => exact ⟨0, Nat.zero_le _, rfl, fun j hj => by omega, rfl⟩
  case round =>
    obtain ⟨k, hk, rfl, HK, rfl⟩ := hrel
    by_cases hkn : k < n
    · obtain ⟨b, off, rfl, _, hb, d0⟩ := cells1 HT.out hkn
      by_cases hin : 0 ≤ c k ∧ c k < m
      · obtain ⟨y, hy⟩ : ∃ y : Nat, c k = y := ⟨(c k).toNat, by omega⟩
        have hym : y < m := by omega
        have hks : kidS s nd m (c k) = setB s (nd y).k := kidS_in hy hym
        have HKS : Hid (kidS s nd m (c k) = setB s (nd y).k) := hks
        rw [hy] at d0
        obtain ⟨b2, o2, rfl, _, hb2, g0, _⟩ := cells8 HN.out hym
        have hw : wiB (y : Int) (m : Int) = true := by unfold wiB; simp; omega
        clear hks hin hy
        cases hset : setB s (nd y).k
        · have hv : allB (fun i => kidS s nd m (c i)) 0 n = false := allB_no (Nat.zero_le _) hkn (HKS.out.trans hset)
          have HV : Hid (allB (fun i => kidS s nd m (c i)) 0 n = false) := hv
          clear hv
          go_wp2_with (first | (go_at_call 171; refine (within_calls _ _ _).mono ?_; rw [hw]; rintro e w1 ⟨rfl, rfl⟩) | (go_at_call 45; refine (has_calls s hs _ _).mono ?_; rw [hset]; rintro e w1 ⟨rfl, rfl⟩))
          go_ret
          exact ⟨ret_bool HV.out.symm, rfl⟩
        · have HV : Hid (kidS s nd m (c k) = true) := HKS.out.trans hset
          go_wp2_with (first | (go_at_call 171; refine (within_calls _ _ _).mono ?_; rw [hw]; rintro e w1 ⟨rfl, rfl⟩) | (go_at_call 45; refine (has_calls s hs _ _).mono ?_; rw [hset]; rintro e w1 ⟨rfl, rfl⟩))
          go_roundw
          case rel => exact ⟨k + 1, by omega, by go_num, fun j hj => by
            by_cases e : j = k
            · subst e; exact HV.out
            · exact HK.out j (by omega), by first | rfl | trivial⟩
          case measure => simp [intOf]; omega
      · have hv : allB (fun i => kidS s nd m (c i)) 0 n = false := allB_no (Nat.zero_le _) hkn (kidS_out hin)
        have HV : Hid (allB (fun i => kidS s nd m (c i)) 0 n = false) := hv
        have hw : wiB (c k) (m : Int) = false := by unfold wiB; simp; omega
        clear hv hin
        go_wp2_with (go_at_call 171; refine (within_calls _ _ _).mono ?_; rw [hw]; rintro e w1 ⟨rfl, rfl⟩)
        go_ret
        exact ⟨ret_bool HV.out.symm, rfl⟩
    · have HV : Hid (allB (fun i => kidS s nd m (c i)) 0 n = true) := allB_true.2 fun i _ hi => HK.out i (by omega)
      go_wp2_with fail
      go_ret
      exact ⟨ret_bool HV.out.symm, rfl⟩

theorem ints_sub {w : World} {a : Option Addr} {n : Nat} {c : Nat → Int} (h : IntsAt 0 w a n c) {b o : Nat} (e : a = some ⟨b, o, none⟩) (i j : Nat) (hij : i + j ≤ n) : IntsAt 0 w (some ⟨b, o + i, none⟩) j (fun k => c (i + k)) := fun hj => by
  obtain ⟨b', o', e', _, h1, h2⟩ := h (by omega)
  obtain ⟨rfl, rfl⟩ : b = b' ∧ o = o' := by rw [e] at e'; simpa using e'
  refine ⟨b, o + i, rfl, Nat.zero_le _, h1, fun k hk l hl => ?_⟩
  have := h2 (i + k) (by omega) l hl
  rw [← this]
  congr 2
  omega

set_option maxRecDepth 100000 in
set_option maxHeartbeats 4000000 in
theorem row_calls (F m : Nat) (nd : Nat → ND) (nas : Nat → NA) (a : Option Addr) (n cap : Nat) (c : Nat → Int) (R j : Nat) (s : Nat → Nat) (w : World) (hs : ∀ i, i < j → s i < 18446744073709551616) (hn : n ≤ 1048576) (hj : j ≤ 4) (hcap : n ≤ cap) (hA : AH w F m nd nas) (hT : IntsAt 0 w a n c) (hR : ∀ i, i < j → w.cell? ⟨R, i, none⟩ = some (.int .u64 (s i : Int))) :
    Calls Tryz.prog 211 #[.pointer (some ⟨F, 0, none⟩), .slice a n cap, .slice (some ⟨R, 0, none⟩) j j] w fun e w' => e = .returned (.bool ((n : Int) == j && allB (fun i => kidS (s i) nd m (c i)) 0 j)) ∧ w' = w := by
  have HT : Hid (IntsAt 0 w a n c) := hT
  have HA : Hid (AH w F m nd nas) := hA
  have HR : Hid (∀ i, i < j → w.cell? ⟨R, i, none⟩ = some (.int .u64 (s i : Int))) := hR
  have HS : Hid (∀ i, i < j → s i < 18446744073709551616) := hs
  clear hT hA hR hs
  by_cases hnj : n = j
  · subst hnj
    have he : ((n : Int) == n && allB (fun i => kidS (s i) nd m (c i)) 0 n) = allB (fun i => kidS (s i) nd m (c i)) 0 n := by simp
    rw [he]
    clear he
    go_enter Tryz.func211, Tryz.ntmps211
    go_wp2_with fail
    go_loopw [16] (fun i wr => ∃ (k : Nat), k ≤ n ∧ i = .int .i64 k ∧ Hid (∀ j, j < k → kidS (s j) nd m (c j) = true) ∧ wr = w) (fun i _ => n - (intOf i).toNat)
    case atStart => exact ⟨0, Nat.zero_le _, rfl, fun j hj => by omega, rfl⟩
    case round =>
      obtain ⟨k, hk, rfl, HK, rfl⟩ := hrel
      by_cases hkn : k < n
      · have r0 := HR.out k hkn
        obtain ⟨b, off, rfl, _, hb, d0⟩ := cells1 HT.out hkn
        have HI : Hid (IntsAt 0 wr (some ⟨b, off + k, none⟩) 1 (fun i => c (k + i))) := ints_sub HT.out rfl k 1 (by omega)
        have hone : allB (fun i => kidS (s k) nd m (c (k + i))) 0 1 = kidS (s k) nd m (c k) := by
          rw [Bool.eq_iff_iff, allB_true]
          exact ⟨fun h => h 0 (Nat.le_refl _) (by omega), fun h i _ hi => by obtain rfl : i = 0 := by omega
                                                                             exact h⟩
        clear d0
        cases hks : kidS (s k) nd m (c k)
        · have HV : Hid (allB (fun i => kidS (s i) nd m (c i)) 0 n = false) := allB_no (Nat.zero_le _) hkn hks
          rw [hks] at hone
          go_wp2_with (go_at_call 210; refine (all_calls F m nd nas _ _ _ (fun i => c (k + i)) (s k) _ (HS.out k hkn) (by omega) HA.out HI.out).mono ?_; rw [hone]; rintro e w1 ⟨rfl, rfl⟩)
          go_ret
          exact ⟨ret_bool HV.out.symm, rfl⟩
        · have HV : Hid (kidS (s k) nd m (c k) = true) := hks
          rw [hks] at hone
          go_wp2_with (go_at_call 210; refine (all_calls F m nd nas _ _ _ (fun i => c (k + i)) (s k) _ (HS.out k hkn) (by omega) HA.out HI.out).mono ?_; rw [hone]; rintro e w1 ⟨rfl, rfl⟩)
          go_roundw
          case rel => exact ⟨k + 1, by omega, by go_num, fun j hj => by
            by_cases e : j = k
            · subst e; exact HV.out
            · exact HK.out j (by omega), by first | rfl | trivial⟩
          case measure => simp [intOf]; omega
      · have HV : Hid (allB (fun i => kidS (s i) nd m (c i)) 0 n = true) := allB_true.2 fun i _ hi => HK.out i (by omega)
        go_wp2_with fail
        go_ret
        exact ⟨ret_bool HV.out.symm, rfl⟩
  · have he : ((n : Int) == j && allB (fun i => kidS (s i) nd m (c i)) 0 j) = false := by
      have : ((n : Int) == j) = false := by simp; omega
      rw [this]; rfl
    rw [he]
    have q : ((n : Int) != (j : Int)) = true := by simp; omega
    clear he
    go_enter Tryz.func211, Tryz.ntmps211
    go_wp2_with fail
    go_ret
    exact ⟨rfl, rfl⟩
end Go.Proofs.YtiidepafifodjabGreat

/-! The program's check of a unit: rows of sets. -/
namespace Go.Proofs.YtiidepafifodjabGreat
open Go.RowKit
attribute [local go_sem] run_store_float
attribute [local go_sem ↓] Go.wp_at_zero Go.wp_at_succ

theorem row1_calls (F m : Nat) (nd : Nat → ND) (nas : Nat → NA) (a : Option Addr) (n cap : Nat) (c : Nat → Int) (R : Nat) (s0 : Nat) (w : World) (b0 : s0 < 18446744073709551616) (hn : n ≤ 1048576) (hcap : n ≤ cap) (hA : AH w F m nd nas) (hT : IntsAt 0 w a n c) (h0 : w.cell? ⟨R, 0, none⟩ = some (.int .u64 (s0 : Int))) :
    Calls Tryz.prog 211 #[.pointer (some ⟨F, 0, none⟩), .slice a n cap, .slice (some ⟨R, 0, none⟩) 1 1] w fun e w' => e = .returned (.bool ((n : Int) == 1 && kidS s0 nd m (c 0))) ∧ w' = w := by
  refine (row_calls F m nd nas a n cap c R 1 (fun i => s0) w (fun i hi => ?_) hn (by omega) hcap hA hT (fun i hi => ?_)).mono ?_
  · rcases (show i = 0 by omega) with rfl
    · exact b0
  · rcases (show i = 0 by omega) with rfl
    · exact h0
  · rintro e w' ⟨rfl, rfl⟩
    refine ⟨ret_bool ?_, rfl⟩
    rw [Bool.eq_iff_iff]
    simp only [Bool.and_eq_true, allB_true]
    constructor
    · rintro ⟨h, k⟩
      exact ⟨h, k 0 (by omega) (by omega)⟩
    · rintro ⟨h, k0⟩
      refine ⟨h, fun i _ hi => ?_⟩
      rcases (show i = 0 by omega) with rfl
      · exact k0
theorem row2_calls (F m : Nat) (nd : Nat → ND) (nas : Nat → NA) (a : Option Addr) (n cap : Nat) (c : Nat → Int) (R : Nat) (s0 s1 : Nat) (w : World) (b0 : s0 < 18446744073709551616) (b1 : s1 < 18446744073709551616) (hn : n ≤ 1048576) (hcap : n ≤ cap) (hA : AH w F m nd nas) (hT : IntsAt 0 w a n c) (h0 : w.cell? ⟨R, 0, none⟩ = some (.int .u64 (s0 : Int))) (h1 : w.cell? ⟨R, 1, none⟩ = some (.int .u64 (s1 : Int))) :
    Calls Tryz.prog 211 #[.pointer (some ⟨F, 0, none⟩), .slice a n cap, .slice (some ⟨R, 0, none⟩) 2 2] w fun e w' => e = .returned (.bool ((n : Int) == 2 && kidS s0 nd m (c 0) && kidS s1 nd m (c 1))) ∧ w' = w := by
  refine (row_calls F m nd nas a n cap c R 2 (fun i => if i = 0 then s0 else s1) w (fun i hi => ?_) hn (by omega) hcap hA hT (fun i hi => ?_)).mono ?_
  · rcases (show i = 0 ∨ i = 1 by omega) with rfl | rfl
    · exact b0
    · exact b1
  · rcases (show i = 0 ∨ i = 1 by omega) with rfl | rfl
    · exact h0
    · exact h1
  · rintro e w' ⟨rfl, rfl⟩
    refine ⟨ret_bool ?_, rfl⟩
    rw [Bool.eq_iff_iff]
    simp only [Bool.and_eq_true, allB_true]
    constructor
    · rintro ⟨h, k⟩
      exact ⟨⟨h, k 0 (by omega) (by omega)⟩, k 1 (by omega) (by omega)⟩
    · rintro ⟨⟨h, k0⟩, k1⟩
      refine ⟨h, fun i _ hi => ?_⟩
      rcases (show i = 0 ∨ i = 1 by omega) with rfl | rfl
      · exact k0
      · exact k1
theorem row3_calls (F m : Nat) (nd : Nat → ND) (nas : Nat → NA) (a : Option Addr) (n cap : Nat) (c : Nat → Int) (R : Nat) (s0 s1 s2 : Nat) (w : World) (b0 : s0 < 18446744073709551616) (b1 : s1 < 18446744073709551616) (b2 : s2 < 18446744073709551616) (hn : n ≤ 1048576) (hcap : n ≤ cap) (hA : AH w F m nd nas) (hT : IntsAt 0 w a n c) (h0 : w.cell? ⟨R, 0, none⟩ = some (.int .u64 (s0 : Int))) (h1 : w.cell? ⟨R, 1, none⟩ = some (.int .u64 (s1 : Int))) (h2 : w.cell? ⟨R, 2, none⟩ = some (.int .u64 (s2 : Int))) :
    Calls Tryz.prog 211 #[.pointer (some ⟨F, 0, none⟩), .slice a n cap, .slice (some ⟨R, 0, none⟩) 3 3] w fun e w' => e = .returned (.bool ((n : Int) == 3 && kidS s0 nd m (c 0) && kidS s1 nd m (c 1) && kidS s2 nd m (c 2))) ∧ w' = w := by
  refine (row_calls F m nd nas a n cap c R 3 (fun i => if i = 0 then s0 else if i = 1 then s1 else s2) w (fun i hi => ?_) hn (by omega) hcap hA hT (fun i hi => ?_)).mono ?_
  · rcases (show i = 0 ∨ i = 1 ∨ i = 2 by omega) with rfl | rfl | rfl
    · exact b0
    · exact b1
    · exact b2
  · rcases (show i = 0 ∨ i = 1 ∨ i = 2 by omega) with rfl | rfl | rfl
    · exact h0
    · exact h1
    · exact h2
  · rintro e w' ⟨rfl, rfl⟩
    refine ⟨ret_bool ?_, rfl⟩
    rw [Bool.eq_iff_iff]
    simp only [Bool.and_eq_true, allB_true]
    constructor
    · rintro ⟨h, k⟩
      exact ⟨⟨⟨h, k 0 (by omega) (by omega)⟩, k 1 (by omega) (by omega)⟩, k 2 (by omega) (by omega)⟩
    · rintro ⟨⟨⟨h, k0⟩, k1⟩, k2⟩
      refine ⟨h, fun i _ hi => ?_⟩
      rcases (show i = 0 ∨ i = 1 ∨ i = 2 by omega) with rfl | rfl | rfl
      · exact k0
      · exact k1
      · exact k2
theorem row4_calls (F m : Nat) (nd : Nat → ND) (nas : Nat → NA) (a : Option Addr) (n cap : Nat) (c : Nat → Int) (R : Nat) (s0 s1 s2 s3 : Nat) (w : World) (b0 : s0 < 18446744073709551616) (b1 : s1 < 18446744073709551616) (b2 : s2 < 18446744073709551616) (b3 : s3 < 18446744073709551616) (hn : n ≤ 1048576) (hcap : n ≤ cap) (hA : AH w F m nd nas) (hT : IntsAt 0 w a n c) (h0 : w.cell? ⟨R, 0, none⟩ = some (.int .u64 (s0 : Int))) (h1 : w.cell? ⟨R, 1, none⟩ = some (.int .u64 (s1 : Int))) (h2 : w.cell? ⟨R, 2, none⟩ = some (.int .u64 (s2 : Int))) (h3 : w.cell? ⟨R, 3, none⟩ = some (.int .u64 (s3 : Int))) :
    Calls Tryz.prog 211 #[.pointer (some ⟨F, 0, none⟩), .slice a n cap, .slice (some ⟨R, 0, none⟩) 4 4] w fun e w' => e = .returned (.bool ((n : Int) == 4 && kidS s0 nd m (c 0) && kidS s1 nd m (c 1) && kidS s2 nd m (c 2) && kidS s3 nd m (c 3))) ∧ w' = w := by
  refine (row_calls F m nd nas a n cap c R 4 (fun i => if i = 0 then s0 else if i = 1 then s1 else if i = 2 then s2 else s3) w (fun i hi => ?_) hn (by omega) hcap hA hT (fun i hi => ?_)).mono ?_
  · rcases (show i = 0 ∨ i = 1 ∨ i = 2 ∨ i = 3 by omega) with rfl | rfl | rfl | rfl
    · exact b0
    · exact b1
    · exact b2
    · exact b3
  · rcases (show i = 0 ∨ i = 1 ∨ i = 2 ∨ i = 3 by omega) with rfl | rfl | rfl | rfl
    · exact h0
    · exact h1
    · exact h2
    · exact h3
  · rintro e w' ⟨rfl, rfl⟩
    refine ⟨ret_bool ?_, rfl⟩
    rw [Bool.eq_iff_iff]
    simp only [Bool.and_eq_true, allB_true]
    constructor
    · rintro ⟨h, k⟩
      exact ⟨⟨⟨⟨h, k 0 (by omega) (by omega)⟩, k 1 (by omega) (by omega)⟩, k 2 (by omega) (by omega)⟩, k 3 (by omega) (by omega)⟩
    · rintro ⟨⟨⟨⟨h, k0⟩, k1⟩, k2⟩, k3⟩
      refine ⟨h, fun i _ hi => ?_⟩
      rcases (show i = 0 ∨ i = 1 ∨ i = 2 ∨ i = 3 by omega) with rfl | rfl | rfl | rfl
      · exact k0
      · exact k1
      · exact k2
      · exact k3
end Go.Proofs.YtiidepafifodjabGreat

/-! The program's check of a unit: a choice's form. -/
namespace Go.Proofs.YtiidepafifodjabGreat
open Go.RowKit
attribute [local go_sem] run_store_float
attribute [local go_sem ↓] Go.wp_at_zero Go.wp_at_succ

/-- the sets of a choice -/
def chS (i : Nat) : Nat := if i = 0 then 549754765312 else if i = 1 then 2 else 34
theorem chS_lt (i : Nat) : chS i < 18446744073709551616 := by unfold chS; split <;> (try split) <;> decide
theorem ch2 {nd : Nat → ND} {m : Nat} {c : Nat → Int} : allB (fun i => kidS (chS i) nd m (c i)) 0 2 = (kidS sEx nd m (c 0) && kidS sBl nd m (c 1)) := by
  rw [Bool.eq_iff_iff, allB_true, Bool.and_eq_true]
  exact ⟨fun h => ⟨h 0 (by omega) (by omega), h 1 (by omega) (by omega)⟩, fun h i _ hi => by
    rcases (show i = 0 ∨ i = 1 by omega) with rfl | rfl
    · exact h.1
    · exact h.2⟩
theorem ch3 {nd : Nat → ND} {m : Nat} {c : Nat → Int} : allB (fun i => kidS (chS i) nd m (c i)) 0 3 = (kidS sEx nd m (c 0) && kidS sBl nd m (c 1) && kidS sEl nd m (c 2)) := by
  rw [Bool.eq_iff_iff, allB_true, Bool.and_eq_true, Bool.and_eq_true]
  exact ⟨fun h => ⟨⟨h 0 (by omega) (by omega), h 1 (by omega) (by omega)⟩, h 2 (by omega) (by omega)⟩, fun h i _ hi => by
    rcases (show i = 0 ∨ i = 1 ∨ i = 2 by omega) with rfl | rfl | rfl
    · exact h.1.1
    · exact h.1.2
    · exact h.2⟩
def chR (nd : Nat → ND) (m : Nat) (c : Nat → Int) (n j : Nat) : Bool := (n : Int) == j && allB (fun i => kidS (chS i) nd m (c i)) 0 j
theorem rowCh_calls (F m : Nat) (nd : Nat → ND) (nas : Nat → NA) (a : Option Addr) (n cap : Nat) (c : Nat → Int) (R j : Nat) (w : World) (hn : n ≤ 1048576) (hj : j ≤ 4) (hcap : n ≤ cap) (hA : AH w F m nd nas) (hT : IntsAt 0 w a n c) (hR : ∀ i, i < j → w.cell? ⟨R, i, none⟩ = some (.int .u64 (chS i : Int))) :
    Calls Tryz.prog 211 #[.pointer (some ⟨F, 0, none⟩), .slice a n cap, .slice (some ⟨R, 0, none⟩) j j] w fun e w' => e = .returned (.bool (chR nd m c n j)) ∧ w' = w := row_calls F m nd nas a n cap c R j chS w (fun i _ => chS_lt i) hn hj hcap hA hT hR
set_option maxRecDepth 100000 in
set_option maxHeartbeats 2000000 in
theorem fo_choice (F m : Nat) (nd : Nat → ND) (nas : Nat → NA) (w : World) (hA : AH w F m nd nas) (hN : NodeAt 0 w (nd m) (nas m)) (hs : (nd m).sm) (hcap : (nd m).kn ≤ (nas m).kc) :
    Calls Tryz.prog 135 #[.pointer (some ⟨F, 0, none⟩), nodeV (nd m) (nas m)] w fun e w' => e = .returned (.bool (uoB (nd m) false false false false false true && (((((nd m).kn : Int) == 2 && kidS sEx nd m ((nd m).c 0) && kidS sBl nd m ((nd m).c 1)) || (((nd m).kn : Int) == 3 && kidS sEx nd m ((nd m).c 0) && kidS sBl nd m ((nd m).c 1) && kidS sEl nd m ((nd m).c 2)))))) ∧ Below w.heap.size w w' := by
  have HA : Hid (AH w F m nd nas) := hA
  have HN : Hid (NodeAt 0 w (nd m) (nas m)) := hN
  have hkn := hs.kn
  clear hA hN hs
  go_enter Tryz.func135, Tryz.ntmps135
  go_wp2_with (first | (go_at_call 209; refine (uo32_calls (nd m) (nas m) _).mono ?_; rintro e w2 ⟨rfl, hb2⟩; have HB2 : Hid (Below w.heap.size w w2) := below_call (below_alloc _ _) hb2; have n2 : w2.cell? ⟨w.heap.size, 2, none⟩ = some (.int .i64 (nd m).o) := (Has.made hb2).cell 2 rfl; have n3 : w2.cell? ⟨w.heap.size, 3, none⟩ = some (.int .i64 (nd m).n) := (Has.made hb2).cell 3 rfl; have n4 : w2.cell? ⟨w.heap.size, 4, none⟩ = some (.float .f64 (nd m).f) := (Has.made hb2).cell 4 rfl; have n5 : w2.cell? ⟨w.heap.size, 5, none⟩ = some (.string (nd m).s) := (Has.made hb2).cell 5 rfl; have n6 : w2.cell? ⟨w.heap.size, 6, none⟩ = some (.slice (nas m).ra (nd m).rn (nas m).rc) := (Has.made hb2).cell 6 rfl; have n7 : w2.cell? ⟨w.heap.size, 7, none⟩ = some (.slice (nas m).ka (nd m).kn (nas m).kc) := (Has.made hb2).cell 7 rfl; have hz2 : w.heap.size < w2.heap.size := (Has.made hb2).lt; clear hb2) | (go_at_call 211; refine (rowCh_calls F m nd nas _ _ _ (nd m).c _ _ _ (by omega) (by omega) hcap (by first | exact HA.out.below (below_a' HB2.out _) | exact HA.out.below (below_a' (below_a' HB2.out _) _)) (by first | exact RowN.below HN.out.2 (below_a' HB2.out _) | exact RowN.below HN.out.2 (below_a' (below_a' HB2.out _) _)) (fun i hi => by rcases i with _ | _ | _ | i <;> first | (simp [chS]; done) | omega)).mono ?_; rintro e w1 ⟨rfl, rfl⟩))
  all_goals go_ret
  all_goals refine ⟨ret_bool ?_, by first | exact HB2.out | exact below_a' HB2.out _ | exact below_a' (below_a' HB2.out _) _⟩
  all_goals first | (simp_all [chR, ch2, ch3, Bool.and_assoc]; done) | trace_state
end Go.Proofs.YtiidepafifodjabGreat
