import Derived.Test.YtdialodjllpgaaaGreatDoorImA
import Derived.Test.YtdialodjllpgaaaGreatDoorCnK
import Derived.Test.YtdialodjllpgaaaGreatDoorRows
import Derived.Test.YtdialodjllpgaaaGreatDoorPlain
import Derived.ProofKit
import Derived.OpenShut
import Derived.ChangeOld
/-! The program's check of a unit: the fields that are used. -/
namespace Go.Proofs.YtdialodjllpgaaaGreatDoor
open Go.RowKit
attribute [local go_sem] run_store_float
attribute [local go_sem ↓] Go.wp_at_zero Go.wp_at_succ

/-- what the flags say -/
def UoSays (d : ND) (x : NA) (v : Int) (o n f s r k : Bool) : Prop := ∀ w : World, Calls Tryz.prog 153 #[nodeV d x, .int .i64 v] w fun e w' => e = .returned (.bool (uoB d o n f s r k)) ∧ Below w.heap.size w w'
set_option maxRecDepth 100000 in
set_option maxHeartbeats 8000000 in
theorem uo0_calls (d : ND) (x : NA) : UoSays d x 0 false false false false false false := by
  intro w
  go_enter Tryz.func153, Tryz.ntmps153
  go_wp2_with fail
  all_goals go_ret
  all_goals exact ⟨by simp [uoB, fz, se, *], below_alloc _ _⟩
set_option maxRecDepth 100000 in
set_option maxHeartbeats 8000000 in
theorem uo32_calls (d : ND) (x : NA) : UoSays d x 32 false false false false false true := by
  intro w
  go_enter Tryz.func153, Tryz.ntmps153
  go_wp2_with fail
  all_goals go_ret
  all_goals exact ⟨by simp [uoB, fz, se, *], below_alloc _ _⟩
set_option maxRecDepth 100000 in
set_option maxHeartbeats 8000000 in
theorem uo48_calls (d : ND) (x : NA) : UoSays d x 48 false false false false true true := by
  intro w
  go_enter Tryz.func153, Tryz.ntmps153
  go_wp2_with fail
  all_goals go_ret
  all_goals exact ⟨by simp [uoB, fz, se, *], below_alloc _ _⟩
set_option maxRecDepth 100000 in
set_option maxHeartbeats 8000000 in
theorem uo34_calls (d : ND) (x : NA) : UoSays d x 34 false true false false false true := by
  intro w
  go_enter Tryz.func153, Tryz.ntmps153
  go_wp2_with fail
  all_goals go_ret
  all_goals exact ⟨by simp [uoB, fz, se, *], below_alloc _ _⟩
set_option maxRecDepth 100000 in
set_option maxHeartbeats 8000000 in
theorem uo2_calls (d : ND) (x : NA) : UoSays d x 2 false true false false false false := by
  intro w
  go_enter Tryz.func153, Tryz.ntmps153
  go_wp2_with fail
  all_goals go_ret
  all_goals exact ⟨by simp [uoB, fz, se, *], below_alloc _ _⟩
set_option maxRecDepth 100000 in
set_option maxHeartbeats 8000000 in
theorem uo4_calls (d : ND) (x : NA) : UoSays d x 4 false false true false false false := by
  intro w
  go_enter Tryz.func153, Tryz.ntmps153
  go_wp2_with fail
  all_goals go_ret
  all_goals exact ⟨by simp [uoB, fz, se, *], below_alloc _ _⟩
set_option maxRecDepth 100000 in
set_option maxHeartbeats 8000000 in
theorem uo8_calls (d : ND) (x : NA) : UoSays d x 8 false false false true false false := by
  intro w
  go_enter Tryz.func153, Tryz.ntmps153
  go_wp2_with fail
  all_goals go_ret
  all_goals exact ⟨by simp [uoB, fz, se, *], below_alloc _ _⟩
set_option maxRecDepth 100000 in
set_option maxHeartbeats 8000000 in
theorem uo16_calls (d : ND) (x : NA) : UoSays d x 16 false false false false true false := by
  intro w
  go_enter Tryz.func153, Tryz.ntmps153
  go_wp2_with fail
  all_goals go_ret
  all_goals exact ⟨by simp [uoB, fz, se, *], below_alloc _ _⟩
set_option maxRecDepth 100000 in
set_option maxHeartbeats 8000000 in
theorem uo33_calls (d : ND) (x : NA) : UoSays d x 33 true false false false false true := by
  intro w
  go_enter Tryz.func153, Tryz.ntmps153
  go_wp2_with fail
  all_goals go_ret
  all_goals exact ⟨by simp [uoB, fz, se, *], below_alloc _ _⟩
end Go.Proofs.YtdialodjllpgaaaGreatDoor

/-! The program's check of a unit: rows of sets. -/
namespace Go.Proofs.YtdialodjllpgaaaGreatDoor
open Go.RowKit
attribute [local go_sem] run_store_float
attribute [local go_sem ↓] Go.wp_at_zero Go.wp_at_succ

theorem row1_calls (F m : Nat) (nd : Nat → ND) (nas : Nat → NA) (a : Option Addr) (n cap : Nat) (c : Nat → Int) (R : Nat) (s0 : Nat) (w : World) (b0 : s0 < 18446744073709551616) (hn : n ≤ 1048576) (hcap : n ≤ cap) (hA : AH w F m nd nas) (hT : IntsAt 0 w a n c) (h0 : w.cell? ⟨R, 0, none⟩ = some (.int .u64 (s0 : Int))) :
    Calls Tryz.prog 155 #[.pointer (some ⟨F, 0, none⟩), .slice a n cap, .slice (some ⟨R, 0, none⟩) 1 1] w fun e w' => e = .returned (.bool ((n : Int) == 1 && kidS s0 nd m (c 0))) ∧ w' = w := by
  refine (row_calls F m nd nas a n cap c R 1 (fun i => s0) w (fun i hi => ?_) hn (by omega) hcap hA hT (fun i hi => ?_)).mono ?_
  · rcases (show i = 0 by omega) with rfl
    · exact b0
  · rcases (show i = 0 by omega) with rfl
    · exact h0
  · rintro e w' ⟨rfl, rfl⟩
    refine ⟨ret_bool ?_, rfl⟩
    rw [Bool.eq_iff_iff]
    simp only [Bool.and_eq_true, allB_true]
    constructor
    · rintro ⟨h, k⟩
      exact ⟨h, k 0 (by omega) (by omega)⟩
    · rintro ⟨h, k0⟩
      refine ⟨h, fun i _ hi => ?_⟩
      rcases (show i = 0 by omega) with rfl
      · exact k0
theorem row2_calls (F m : Nat) (nd : Nat → ND) (nas : Nat → NA) (a : Option Addr) (n cap : Nat) (c : Nat → Int) (R : Nat) (s0 s1 : Nat) (w : World) (b0 : s0 < 18446744073709551616) (b1 : s1 < 18446744073709551616) (hn : n ≤ 1048576) (hcap : n ≤ cap) (hA : AH w F m nd nas) (hT : IntsAt 0 w a n c) (h0 : w.cell? ⟨R, 0, none⟩ = some (.int .u64 (s0 : Int))) (h1 : w.cell? ⟨R, 1, none⟩ = some (.int .u64 (s1 : Int))) :
    Calls Tryz.prog 155 #[.pointer (some ⟨F, 0, none⟩), .slice a n cap, .slice (some ⟨R, 0, none⟩) 2 2] w fun e w' => e = .returned (.bool ((n : Int) == 2 && kidS s0 nd m (c 0) && kidS s1 nd m (c 1))) ∧ w' = w := by
  refine (row_calls F m nd nas a n cap c R 2 (fun i => if i = 0 then s0 else s1) w (fun i hi => ?_) hn (by omega) hcap hA hT (fun i hi => ?_)).mono ?_
  · rcases (show i = 0 ∨ i = 1 by omega) with rfl | rfl
    · exact b0
    · exact b1
  · rcases (show i = 0 ∨ i = 1 by omega) with rfl | rfl
    · exact h0
    · exact h1
  · rintro e w' ⟨rfl, rfl⟩
    refine ⟨ret_bool ?_, rfl⟩
    rw [Bool.eq_iff_iff]
    simp only [Bool.and_eq_true, allB_true]
    constructor
    · rintro ⟨h, k⟩
      exact ⟨⟨h, k 0 (by omega) (by omega)⟩, k 1 (by omega) (by omega)⟩
    · rintro ⟨⟨h, k0⟩, k1⟩
      refine ⟨h, fun i _ hi => ?_⟩
      rcases (show i = 0 ∨ i = 1 by omega) with rfl | rfl
      · exact k0
      · exact k1
theorem row4_calls (F m : Nat) (nd : Nat → ND) (nas : Nat → NA) (a : Option Addr) (n cap : Nat) (c : Nat → Int) (R : Nat) (s0 s1 s2 s3 : Nat) (w : World) (b0 : s0 < 18446744073709551616) (b1 : s1 < 18446744073709551616) (b2 : s2 < 18446744073709551616) (b3 : s3 < 18446744073709551616) (hn : n ≤ 1048576) (hcap : n ≤ cap) (hA : AH w F m nd nas) (hT : IntsAt 0 w a n c) (h0 : w.cell? ⟨R, 0, none⟩ = some (.int .u64 (s0 : Int))) (h1 : w.cell? ⟨R, 1, none⟩ = some (.int .u64 (s1 : Int))) (h2 : w.cell? ⟨R, 2, none⟩ = some (.int .u64 (s2 : Int))) (h3 : w.cell? ⟨R, 3, none⟩ = some (.int .u64 (s3 : Int))) :
    Calls Tryz.prog 155 #[.pointer (some ⟨F, 0, none⟩), .slice a n cap, .slice (some ⟨R, 0, none⟩) 4 4] w fun e w' => e = .returned (.bool ((n : Int) == 4 && kidS s0 nd m (c 0) && kidS s1 nd m (c 1) && kidS s2 nd m (c 2) && kidS s3 nd m (c 3))) ∧ w' = w := by
  refine (row_calls F m nd nas a n cap c R 4 (fun i => if i = 0 then s0 else if i = 1 then s1 else if i = 2 then s2 else s3) w (fun i hi => ?_) hn (by omega) hcap hA hT (fun i hi => ?_)).mono ?_
  · rcases (show i = 0 ∨ i = 1 ∨ i = 2 ∨ i = 3 by omega) with rfl | rfl | rfl | rfl
    · exact b0
    · exact b1
    · exact b2
    · exact b3
  · rcases (show i = 0 ∨ i = 1 ∨ i = 2 ∨ i = 3 by omega) with rfl | rfl | rfl | rfl
    · exact h0
    · exact h1
    · exact h2
    · exact h3
  · rintro e w' ⟨rfl, rfl⟩
    refine ⟨ret_bool ?_, rfl⟩
    rw [Bool.eq_iff_iff]
    simp only [Bool.and_eq_true, allB_true]
    constructor
    · rintro ⟨h, k⟩
      exact ⟨⟨⟨⟨h, k 0 (by omega) (by omega)⟩, k 1 (by omega) (by omega)⟩, k 2 (by omega) (by omega)⟩, k 3 (by omega) (by omega)⟩
    · rintro ⟨⟨⟨⟨h, k0⟩, k1⟩, k2⟩, k3⟩
      refine ⟨h, fun i _ hi => ?_⟩
      rcases (show i = 0 ∨ i = 1 ∨ i = 2 ∨ i = 3 by omega) with rfl | rfl | rfl | rfl
      · exact k0
      · exact k1
      · exact k2
      · exact k3
end Go.Proofs.YtdialodjllpgaaaGreatDoor

/-! The program's check of a unit: a choice's form. -/
namespace Go.Proofs.YtdialodjllpgaaaGreatDoor
open Go.RowKit
attribute [local go_sem] run_store_float
attribute [local go_sem ↓] Go.wp_at_zero Go.wp_at_succ

/-- the sets of a choice -/
def chS (i : Nat) : Nat := if i = 0 then 549754765312 else if i = 1 then 2 else 34
theorem chS_lt (i : Nat) : chS i < 18446744073709551616 := by unfold chS; split <;> (try split) <;> decide
theorem ch2 {nd : Nat → ND} {m : Nat} {c : Nat → Int} : allB (fun i => kidS (chS i) nd m (c i)) 0 2 = (kidS sEx nd m (c 0) && kidS sBl nd m (c 1)) := by
  rw [Bool.eq_iff_iff, allB_true, Bool.and_eq_true]
  exact ⟨fun h => ⟨h 0 (by omega) (by omega), h 1 (by omega) (by omega)⟩, fun h i _ hi => by
    rcases (show i = 0 ∨ i = 1 by omega) with rfl | rfl
    · exact h.1
    · exact h.2⟩
theorem ch3 {nd : Nat → ND} {m : Nat} {c : Nat → Int} : allB (fun i => kidS (chS i) nd m (c i)) 0 3 = (kidS sEx nd m (c 0) && kidS sBl nd m (c 1) && kidS sEl nd m (c 2)) := by
  rw [Bool.eq_iff_iff, allB_true, Bool.and_eq_true, Bool.and_eq_true]
  exact ⟨fun h => ⟨⟨h 0 (by omega) (by omega), h 1 (by omega) (by omega)⟩, h 2 (by omega) (by omega)⟩, fun h i _ hi => by
    rcases (show i = 0 ∨ i = 1 ∨ i = 2 by omega) with rfl | rfl | rfl
    · exact h.1.1
    · exact h.1.2
    · exact h.2⟩
def chR (nd : Nat → ND) (m : Nat) (c : Nat → Int) (n j : Nat) : Bool := (n : Int) == j && allB (fun i => kidS (chS i) nd m (c i)) 0 j
theorem rowCh_calls (F m : Nat) (nd : Nat → ND) (nas : Nat → NA) (a : Option Addr) (n cap : Nat) (c : Nat → Int) (R j : Nat) (w : World) (hn : n ≤ 1048576) (hj : j ≤ 4) (hcap : n ≤ cap) (hA : AH w F m nd nas) (hT : IntsAt 0 w a n c) (hR : ∀ i, i < j → w.cell? ⟨R, i, none⟩ = some (.int .u64 (chS i : Int))) :
    Calls Tryz.prog 155 #[.pointer (some ⟨F, 0, none⟩), .slice a n cap, .slice (some ⟨R, 0, none⟩) j j] w fun e w' => e = .returned (.bool (chR nd m c n j)) ∧ w' = w := row_calls F m nd nas a n cap c R j chS w (fun i _ => chS_lt i) hn hj hcap hA hT hR
set_option maxRecDepth 100000 in
set_option maxHeartbeats 2000000 in
theorem fo_choice (F m : Nat) (nd : Nat → ND) (nas : Nat → NA) (w : World) (hA : AH w F m nd nas) (hN : NodeAt 0 w (nd m) (nas m)) (hs : (nd m).sm) (hcap : (nd m).kn ≤ (nas m).kc) :
    Calls Tryz.prog 102 #[.pointer (some ⟨F, 0, none⟩), nodeV (nd m) (nas m)] w fun e w' => e = .returned (.bool (uoB (nd m) false false false false false true && (((((nd m).kn : Int) == 2 && kidS sEx nd m ((nd m).c 0) && kidS sBl nd m ((nd m).c 1)) || (((nd m).kn : Int) == 3 && kidS sEx nd m ((nd m).c 0) && kidS sBl nd m ((nd m).c 1) && kidS sEl nd m ((nd m).c 2)))))) ∧ Below w.heap.size w w' := by
  have HA : Hid (AH w F m nd nas) := hA
  have HN : Hid (NodeAt 0 w (nd m) (nas m)) := hN
  have hkn := hs.kn
  clear hA hN hs
  go_enter Tryz.func102, Tryz.ntmps102
  go_wp2_with (first | (go_at_call 153; refine (uo32_calls (nd m) (nas m) _).mono ?_; rintro e w2 ⟨rfl, hb2⟩; have HB2 : Hid (Below w.heap.size w w2) := below_call (below_alloc _ _) hb2; have n2 : w2.cell? ⟨w.heap.size, 2, none⟩ = some (.int .i64 (nd m).o) := (Has.made hb2).cell 2 rfl; have n3 : w2.cell? ⟨w.heap.size, 3, none⟩ = some (.int .i64 (nd m).n) := (Has.made hb2).cell 3 rfl; have n4 : w2.cell? ⟨w.heap.size, 4, none⟩ = some (.float .f64 (nd m).f) := (Has.made hb2).cell 4 rfl; have n5 : w2.cell? ⟨w.heap.size, 5, none⟩ = some (.string (nd m).s) := (Has.made hb2).cell 5 rfl; have n6 : w2.cell? ⟨w.heap.size, 6, none⟩ = some (.slice (nas m).ra (nd m).rn (nas m).rc) := (Has.made hb2).cell 6 rfl; have n7 : w2.cell? ⟨w.heap.size, 7, none⟩ = some (.slice (nas m).ka (nd m).kn (nas m).kc) := (Has.made hb2).cell 7 rfl; have hz2 : w.heap.size < w2.heap.size := (Has.made hb2).lt; clear hb2) | (go_at_call 155; refine (rowCh_calls F m nd nas _ _ _ (nd m).c _ _ _ (by omega) (by omega) hcap (by first | exact HA.out.below (below_a' HB2.out _) | exact HA.out.below (below_a' (below_a' HB2.out _) _)) (by first | exact RowN.below HN.out.2 (below_a' HB2.out _) | exact RowN.below HN.out.2 (below_a' (below_a' HB2.out _) _)) (fun i hi => by rcases i with _ | _ | _ | i <;> first | (simp [chS]; done) | omega)).mono ?_; rintro e w1 ⟨rfl, rfl⟩))
  all_goals go_ret
  all_goals refine ⟨ret_bool ?_, by first | exact HB2.out | exact below_a' HB2.out _ | exact below_a' (below_a' HB2.out _) _⟩
  all_goals first | (simp_all [chR, ch2, ch3, Bool.and_assoc]; done) | trace_state
end Go.Proofs.YtdialodjllpgaaaGreatDoor

/-! The program's check of a unit: forms. -/
namespace Go.Proofs.YtdialodjllpgaaaGreatDoor
open Go.RowKit
attribute [local go_sem] run_store_float
attribute [local go_sem ↓] Go.wp_at_zero Go.wp_at_succ

set_option maxRecDepth 100000 in
set_option maxHeartbeats 8000000 in
theorem fo_unary (F m : Nat) (nd : Nat → ND) (nas : Nat → NA) (w : World) (hA : AH w F m nd nas) (hN : NodeAt 0 w (nd m) (nas m)) (hs : (nd m).sm) (hcap : (nd m).kn ≤ (nas m).kc) :
    Calls Tryz.prog 116 #[.pointer (some ⟨F, 0, none⟩), nodeV (nd m) (nas m)] w fun e w' => e = .returned (.bool (uoB (nd m) true false false false false true && (btB (nd m).o 19 22 && (((nd m).kn : Int) == 1 && kidS sEx nd m ((nd m).c 0))))) ∧ Below w.heap.size w w' := by
  have HA : Hid (AH w F m nd nas) := hA
  have HN : Hid (NodeAt 0 w (nd m) (nas m)) := hN
  have hkn := hs.kn
  have hrn := hs.rn
  have hsz := hs.s
  clear hA hN hs
  go_enter Tryz.func116, Tryz.ntmps116
  go_wp2_with (first | (go_at_call 153; refine (uo33_calls (nd m) (nas m) _).mono ?_; rintro e w2 ⟨rfl, hb2⟩; have HB2 : Hid (Below w.heap.size w w2) := below_call (below_alloc _ _) hb2; have n2 : w2.cell? ⟨w.heap.size, 2, none⟩ = some (.int .i64 (nd m).o) := (Has.made hb2).cell 2 rfl; have n3 : w2.cell? ⟨w.heap.size, 3, none⟩ = some (.int .i64 (nd m).n) := (Has.made hb2).cell 3 rfl; have n4 : w2.cell? ⟨w.heap.size, 4, none⟩ = some (.float .f64 (nd m).f) := (Has.made hb2).cell 4 rfl; have n5 : w2.cell? ⟨w.heap.size, 5, none⟩ = some (.string (nd m).s) := (Has.made hb2).cell 5 rfl; have n6 : w2.cell? ⟨w.heap.size, 6, none⟩ = some (.slice (nas m).ra (nd m).rn (nas m).rc) := (Has.made hb2).cell 6 rfl; have n7 : w2.cell? ⟨w.heap.size, 7, none⟩ = some (.slice (nas m).ka (nd m).kn (nas m).kc) := (Has.made hb2).cell 7 rfl; have hz2 : w.heap.size < w2.heap.size := (Has.made hb2).lt; clear hb2) | (go_at_call 42; refine (between_calls _ _ _ _).mono ?_; rintro e w1 ⟨rfl, rfl⟩) | (go_at_call 155; refine (row1_calls F m nd nas _ _ _ (nd m).c _ 549754765312 _ (by decide) (by omega) hcap (HA.out.below (below_a' HB2.out _)) (RowN.below HN.out.2 (below_a' HB2.out _)) (by simp)).mono ?_; rintro e w1 ⟨rfl, rfl⟩))
  all_goals go_ret
  all_goals refine ⟨ret_bool ?_, by first | exact HB2.out | exact below_a' HB2.out _ | exact below_a' (below_a' HB2.out _) _⟩
  all_goals first | rfl | (simp [*]; done) | (simp [*]; omega) | (simp [*]; intros; omega)

set_option maxRecDepth 100000 in
set_option maxHeartbeats 8000000 in
theorem fo_binary (F m : Nat) (nd : Nat → ND) (nas : Nat → NA) (w : World) (hA : AH w F m nd nas) (hN : NodeAt 0 w (nd m) (nas m)) (hs : (nd m).sm) (hcap : (nd m).kn ≤ (nas m).kc) :
    Calls Tryz.prog 117 #[.pointer (some ⟨F, 0, none⟩), nodeV (nd m) (nas m)] w fun e w' => e = .returned (.bool (uoB (nd m) true false false false false true && (btB (nd m).o 1 18 && (((nd m).kn : Int) == 2 && kidS sEx nd m ((nd m).c 0) && kidS sEx nd m ((nd m).c 1))))) ∧ Below w.heap.size w w' := by
  have HA : Hid (AH w F m nd nas) := hA
  have HN : Hid (NodeAt 0 w (nd m) (nas m)) := hN
  have hkn := hs.kn
  have hrn := hs.rn
  have hsz := hs.s
  clear hA hN hs
  go_enter Tryz.func117, Tryz.ntmps117
  go_wp2_with (first | (go_at_call 153; refine (uo33_calls (nd m) (nas m) _).mono ?_; rintro e w2 ⟨rfl, hb2⟩; have HB2 : Hid (Below w.heap.size w w2) := below_call (below_alloc _ _) hb2; have n2 : w2.cell? ⟨w.heap.size, 2, none⟩ = some (.int .i64 (nd m).o) := (Has.made hb2).cell 2 rfl; have n3 : w2.cell? ⟨w.heap.size, 3, none⟩ = some (.int .i64 (nd m).n) := (Has.made hb2).cell 3 rfl; have n4 : w2.cell? ⟨w.heap.size, 4, none⟩ = some (.float .f64 (nd m).f) := (Has.made hb2).cell 4 rfl; have n5 : w2.cell? ⟨w.heap.size, 5, none⟩ = some (.string (nd m).s) := (Has.made hb2).cell 5 rfl; have n6 : w2.cell? ⟨w.heap.size, 6, none⟩ = some (.slice (nas m).ra (nd m).rn (nas m).rc) := (Has.made hb2).cell 6 rfl; have n7 : w2.cell? ⟨w.heap.size, 7, none⟩ = some (.slice (nas m).ka (nd m).kn (nas m).kc) := (Has.made hb2).cell 7 rfl; have hz2 : w.heap.size < w2.heap.size := (Has.made hb2).lt; clear hb2) | (go_at_call 42; refine (between_calls _ _ _ _).mono ?_; rintro e w1 ⟨rfl, rfl⟩) | (go_at_call 155; refine (row2_calls F m nd nas _ _ _ (nd m).c _ 549754765312 549754765312 _ (by decide) (by decide) (by omega) hcap (HA.out.below (below_a' HB2.out _)) (RowN.below HN.out.2 (below_a' HB2.out _)) (by simp) (by simp)).mono ?_; rintro e w1 ⟨rfl, rfl⟩))
  all_goals go_ret
  all_goals refine ⟨ret_bool ?_, by first | exact HB2.out | exact below_a' HB2.out _ | exact below_a' (below_a' HB2.out _) _⟩
  all_goals first | rfl | (simp [*]; done) | (simp [*]; omega) | (simp [*]; intros; omega)

end Go.Proofs.YtdialodjllpgaaaGreatDoor

/-! The specification's check of a unit: what a fn closes over. -/
namespace Go.Proofs.YtdialodjllpgaaaGreatDoor
open Go.RowKit
attribute [local go_sem] run_store_float
attribute [local go_sem ↓] Go.wp_at_zero Go.wp_at_succ

/-- what one step reads -/
abbrev USr (B W b off f cap un P D : Nat) (u : UD) (fas : Nat → FA) (ix : Int) (w' : World) : Prop := w'.cell? ⟨W, 1, none⟩ = some (.int .i64 ix) ∧ w'.cell? ⟨B, 0, none⟩ = some (.slice (some ⟨b, off, none⟩) un cap) ∧ w'.cell? ⟨b, off + f * 7, none⟩ = some (.string (u.fn f).name) ∧ w'.cell? ⟨b, off + f * 7 + 1, none⟩ = some (.int .i64 (u.fn f).line) ∧ w'.cell? ⟨b, off + f * 7 + 2, none⟩ = some (.int .i64 (u.fn f).params) ∧ w'.cell? ⟨b, off + f * 7 + 3, none⟩ = some (.bool (u.fn f).rest) ∧ w'.cell? ⟨b, off + f * 7 + 4, none⟩ = some (.slice (fas f).va (u.fn f).vn (fas f).vc) ∧ w'.cell? ⟨b, off + f * 7 + 5, none⟩ = some (.slice (fas f).ua (u.fn f).un (fas f).uc) ∧ w'.cell? ⟨b, off + f * 7 + 6, none⟩ = some (.slice (fas f).na (u.fn f).nn (fas f).nc) ∧ w'.cell? ⟨B + 1, 0, none⟩ = some (.slice (some ⟨P, 0, none⟩) (u.fn f).nn (u.fn f).nn) ∧ w'.cell? ⟨B + 1, 1, none⟩ = some (.slice (some ⟨D, 0, none⟩) (u.fn f).nn (u.fn f).nn)

end Go.Proofs.YtdialodjllpgaaaGreatDoor

/-! The specification's check of a unit: codes 6 to 9, plain. -/
namespace Go.Proofs.YtdialodjllpgaaaGreatDoor
open Go.RowKit

/-- code 8 of a node -/
def EightBad (u : UD) (f n : Nat) : Prop := MakeBad u f n ∨ TwiceBad u f n
theorem made_zero {u : UD} {g : Int} : ¬ MadeBefore u 0 0 g := by rintro ⟨f', x', h, _⟩; omega
theorem made_succ {u : UD} {f x : Nat} (hf : f < u.n) (hx : x < (u.fn f).nn) {g : Int} : MadeBefore u f (x + 1) g ↔ MadeBefore u f x g ∨ (((u.fn f).nd x).k = 36 ∧ ((u.fn f).nd x).r 0 = g) := by
  constructor
  · rintro ⟨f', x', h, hm⟩
    by_cases e : f' = f ∧ x' = x
    · obtain ⟨rfl, rfl⟩ := e
      exact .inr hm.2.2
    · exact .inl ⟨f', x', by omega, hm⟩
  · rintro (⟨f', x', h, hm⟩ | h)
    · exact ⟨f', x', by omega, hm⟩
    · exact ⟨f, x, by omega, hf, hx, h⟩
theorem made_next {u : UD} {f : Nat} {g : Int} : MadeBefore u (f + 1) 0 g ↔ MadeBefore u f (u.fn f).nn g := by
  constructor
  · rintro ⟨f', x', h, hm⟩
    refine ⟨f', x', ?_, hm⟩
    by_cases e : f' = f
    · subst e; exact .inr ⟨rfl, hm.2.1⟩
    · exact .inl (by omega)
  · rintro ⟨f', x', h, hm⟩
    exact ⟨f', x', by omega, hm⟩
theorem made_all {u : UD} {g : Int} : MadeBefore u u.n 0 g ↔ ∃ f x, MakesAt u f x g := by
  constructor
  · rintro ⟨f', x', _, hm⟩
    exact ⟨f', x', hm⟩
  · rintro ⟨f', x', hm⟩
    exact ⟨f', x', .inl hm.1, hm⟩

/-- the row of what has been made -/
def MadeRow (w : World) (M : Nat) (u : UD) (f x : Nat) : Prop := w.rowIs M 4 u.n (fun i => .bool (dB (MadeBefore u f x i)))
theorem MadeRow.below {w w' : World} {M : Nat} {u : UD} {f x : Nat} (h : MadeRow w M u f x) (hb : Below w.heap.size w w') : MadeRow w' M u f x := World.rowIs.of_block h (hb.block _ h.lt)
theorem MadeRow.congr {w : World} {M : Nat} {u : UD} {f x f' x' : Nat} (h : MadeRow w M u f x) (e : ∀ v : Nat, MadeBefore u f x v ↔ MadeBefore u f' x' v) : MadeRow w M u f' x' := World.rowIs.congr h fun i _ => by
  by_cases c : MadeBefore u f x i
  · rw [dB_true c, dB_true ((e i).1 c)]
  · rw [dB_false c, dB_false fun c' => c ((e i).2 c')]
theorem MadeRow.set {w : World} {M : Nat} {u : UD} {f x g : Nat} (hf : f < u.n) (hx : x < (u.fn f).nn) (h : MadeRow w M u f x) (hk : ((u.fn f).nd x).k = 36) (hg : ((u.fn f).nd x).r 0 = g) : MadeRow (w.setCell ⟨M, g, none⟩ (.bool true)) M u f (x + 1) := (World.rowIs.set h g (.bool true)).congr fun i _ => by
  by_cases e : i = g
  · rw [if_pos e, dB_true ((made_succ hf hx).2 (.inr ⟨hk, by rw [hg, e]⟩))]
  · rw [if_neg e]
    by_cases c : MadeBefore u f x i
    · rw [dB_true c, dB_true ((made_succ hf hx).2 (.inl c))]
    · rw [dB_false c, dB_false fun c' => ((made_succ hf hx).1 c').elim c fun h => e (by omega)]
theorem MadeRow.skip {w : World} {M : Nat} {u : UD} {f x : Nat} (hf : f < u.n) (hx : x < (u.fn f).nn) (h : MadeRow w M u f x) (hk : ((u.fn f).nd x).k ≠ 36) : MadeRow w M u f (x + 1) := h.congr fun v => by
  rw [made_succ hf hx]
  exact ⟨.inl, fun h => h.elim id fun h => absurd h.1 hk⟩

/-- parents and depths, made behind w -/
def Grow2Post (d : FD) (w : World) (e : Ending) (w' : World) : Prop := ∃ P D, e = .returned (treeV P D d.nn) ∧ IntsAt w.heap.size w' (some ⟨P, 0, none⟩) d.nn (parP d.nd d.nn) ∧ Below w.heap.size w w'
theorem infoBool : (Tryz.prog.info? 4).map (fun i => (i.zero, i.size, i.bytes)) = some (some (.bool false), 1, 1) := by kernel_rfl
theorem seen_first {d : FD} {p : Nat} (hp : d.params = p) (v : Nat) : v < p ↔ SeenV d 0 0 v := by
  unfold SeenV
  constructor
  · intro h; exact .inl (by omega)
  · rintro (h | ⟨m, hm, _⟩ | ⟨b, hb, _⟩)
    · omega
    · omega
    · omega
end Go.Proofs.YtdialodjllpgaaaGreatDoor

/-! A slice of bytes that came in, opened. -/
namespace Go.Proofs.YtdialodjllpgaaaGreatDoor
open Go.ChangeShapes Go.WideShapes Go.ChangeAt Go.RowKit

theorem Tryz.own : ownKnob Tryz.prog.godebug = none := by kernel_rfl
theorem Tryz.laidOut : laidOutB Tryz.prog = true := by kernel_rfl

/-- nil, or a row of bytes -/
def IsRow (w : World) (a : Option Addr) (len cap : Nat) (zs : List Int) : Prop :=
  (a = none ∧ len = 0 ∧ cap = 0 ∧ zs = []) ∨
  ∃ x, a = some x ∧ len ≤ cap ∧ cap ≤ maxLen ∧ zs.length = cap ∧ (∀ i, i < zs.length → w.cell? (x.add i) = some (.int .u8 (zs.getD i 0))) ∧ ∀ n ∈ zs, (Lit.int .u8 n).wf = true

theorem cells_byte : Tryz.prog.cellsOf 5 = 1 := by kernel_rfl

set_option maxRecDepth 100000 in
theorem open_bytes {H : Type} {enc : TypeId × Value → H} {w : World} {base : Nat} {held : Bool} {a : Option Addr} {len cap : Nat} {d : DataW H} {p : List MemPlace} (h : DataW.Trod enc Tryz.prog w base (fun _ => true) held 22 (.slice a len cap) d p) : ∃ zs, IsRow w a len cap zs := by
  obtain ⟨fuel, hf⟩ := h
  rcases open_ints Tryz.underlying22 Tryz.underlying5 cells_byte hf with ⟨hcs, _⟩ | ⟨x, l, c, zs, hcs, _, hl, hm, hz, _, hcell, hwz⟩
  · simp [Value.cells] at hcs
    obtain ⟨rfl, rfl, rfl⟩ := hcs
    exact ⟨[], .inl ⟨rfl, rfl, rfl, rfl⟩⟩
  · simp [Value.cells] at hcs
    obtain ⟨rfl, rfl, rfl⟩ := hcs
    exact ⟨zs, .inr ⟨_, rfl, hl, hm, by simpa using hz, hcell, hwz⟩⟩
end Go.Proofs.YtdialodjllpgaaaGreatDoor
