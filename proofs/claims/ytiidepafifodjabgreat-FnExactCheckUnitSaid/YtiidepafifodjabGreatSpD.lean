import Derived.Test.YtiidepafifodjabGreatSpP
/-! The specification's check of a unit: statements. -/
namespace Go.Proofs.YtiidepafifodjabGreat
open Go.RowKit
attribute [local go_sem] run_store_float
attribute [local go_sem ↓] Go.wp_at_zero Go.wp_at_succ

set_option maxRecDepth 100000 in
set_option maxHeartbeats 2000000 in
theorem st4_calls (L : Nat) (n : Nat) (nd : Nat → ND) (a : Option Addr) (cap : Nat) (nas : Nat → NA) (m : Nat) (w : World) (hS : StAt L w n nd a nas m) (hk : (nd m).k = 4) :
    Calls Tryz.prog 125 #[.slice a n cap, .int .i64 m] w fun e w' => e = .returned (.bool (stB nd m)) ∧ Below w.heap.size w w' := by
  have HS : Hid (StAt L w n nd a nas m) := hS
  have hm := hS.lt
  clear hS
  obtain ⟨b, off, rfl, _, hb, d0, d1, d2, d3, d4, d5, d6, d7⟩ := cells8 HS.out.at'.1 hm
  have hkn := HS.out.sm.kn
  have q1 : ((nd m).k == 1) = false := by rw [hk]; rfl
  have q2 : ((nd m).k == 2) = false := by rw [hk]; rfl
  have q3 : ((nd m).k == 3) = false := by rw [hk]; rfl
  have q4 : ((nd m).k == 4) = true := by rw [hk]; rfl
  have HK : Hid ((nd m).k = 4) := hk
  clear hk
  go_enter Tryz.func125, Tryz.ntmps125
  go_wp2_with (first | (go_at_call 200; refine (l3kidI L n nd _ cap nas m _ (by omega) _ hm (HS.out.at'.alloc _)).mono ?_; rintro e w1 ⟨rfl, rfl⟩) | (go_at_call 202; refine (l3exprsI L n nd _ cap nas m _ _ _ hm (by omega) (by omega) (by omega) (by first | exact HS.out.at'.alloc _ | exact HS.out.at'.below hb2)).mono ?_; rintro e w1 ⟨rfl, rfl⟩) | (go_at_call 201; refine (l3bare_calls _ _ _ _ _ _ _ _ _ _ _ _ _ _ _ _).mono ?_; rintro e w2 ⟨rfl, hb2⟩; replace hb2 := below_call (below_alloc _ _) hb2))
  all_goals go_ret
  all_goals refine ⟨ret_bool ?_, by first | exact hb2 | exact below_alloc _ _⟩
  all_goals unfold stB
  all_goals rw [HK.out]
  all_goals simp [bareB, *]

set_option maxRecDepth 100000 in
set_option maxHeartbeats 2000000 in
theorem st14_calls (L : Nat) (n : Nat) (nd : Nat → ND) (a : Option Addr) (cap : Nat) (nas : Nat → NA) (m : Nat) (w : World) (hS : StAt L w n nd a nas m) (hk : (nd m).k = 14) :
    Calls Tryz.prog 125 #[.slice a n cap, .int .i64 m] w fun e w' => e = .returned (.bool (stB nd m)) ∧ Below w.heap.size w w' := by
  have HS : Hid (StAt L w n nd a nas m) := hS
  have hm := hS.lt
  clear hS
  obtain ⟨b, off, rfl, _, hb, d0, d1, d2, d3, d4, d5, d6, d7⟩ := cells8 HS.out.at'.1 hm
  have hkn := HS.out.sm.kn
  have q1 : ((nd m).k == 1) = false := by rw [hk]; rfl
  have q2 : ((nd m).k == 2) = false := by rw [hk]; rfl
  have q3 : ((nd m).k == 3) = false := by rw [hk]; rfl
  have q4 : ((nd m).k == 4) = false := by rw [hk]; rfl
  have q14 : ((nd m).k == 14) = true := by rw [hk]; rfl
  have HK : Hid ((nd m).k = 14) := hk
  clear hk
  go_enter Tryz.func125, Tryz.ntmps125
  go_wp2_with (first | (go_at_call 200; refine (l3kidI L n nd _ cap nas m _ (by omega) _ hm (HS.out.at'.alloc _)).mono ?_; rintro e w1 ⟨rfl, rfl⟩) | (go_at_call 202; refine (l3exprsI L n nd _ cap nas m _ _ _ hm (by omega) (by omega) (by omega) (by first | exact HS.out.at'.alloc _ | exact HS.out.at'.below hb2)).mono ?_; rintro e w1 ⟨rfl, rfl⟩) | (go_at_call 201; refine (l3bare_calls _ _ _ _ _ _ _ _ _ _ _ _ _ _ _ _).mono ?_; rintro e w2 ⟨rfl, hb2⟩; replace hb2 := below_call (below_alloc _ _) hb2))
  all_goals go_ret
  all_goals refine ⟨ret_bool ?_, by first | exact hb2 | exact below_alloc _ _⟩
  all_goals unfold stB
  all_goals rw [HK.out]
  all_goals simp [bareB, *]

set_option maxRecDepth 100000 in
set_option maxHeartbeats 2000000 in
theorem st5_calls (L : Nat) (n : Nat) (nd : Nat → ND) (a : Option Addr) (cap : Nat) (nas : Nat → NA) (m : Nat) (w : World) (hS : StAt L w n nd a nas m) (hk : (nd m).k = 5) :
    Calls Tryz.prog 125 #[.slice a n cap, .int .i64 m] w fun e w' => e = .returned (.bool (stB nd m)) ∧ Below w.heap.size w w' := by
  have HS : Hid (StAt L w n nd a nas m) := hS
  have hm := hS.lt
  clear hS
  obtain ⟨b, off, rfl, _, hb, d0, d1, d2, d3, d4, d5, d6, d7⟩ := cells8 HS.out.at'.1 hm
  have hkn := HS.out.sm.kn
  have q1 : ((nd m).k == 1) = false := by rw [hk]; rfl
  have q2 : ((nd m).k == 2) = false := by rw [hk]; rfl
  have q3 : ((nd m).k == 3) = false := by rw [hk]; rfl
  have q4 : ((nd m).k == 4) = false := by rw [hk]; rfl
  have q14 : ((nd m).k == 14) = false := by rw [hk]; rfl
  have q5 : ((nd m).k == 5) = true := by rw [hk]; rfl
  have HK : Hid ((nd m).k = 5) := hk
  clear hk
  go_enter Tryz.func125, Tryz.ntmps125
  go_wp2_with (first | (go_at_call 200; refine (l3kidI L n nd _ cap nas m _ (by omega) _ hm (HS.out.at'.alloc _)).mono ?_; rintro e w1 ⟨rfl, rfl⟩) | (go_at_call 202; refine (l3exprsI L n nd _ cap nas m _ _ _ hm (by omega) (by omega) (by omega) (by first | exact HS.out.at'.alloc _ | exact HS.out.at'.below hb2)).mono ?_; rintro e w1 ⟨rfl, rfl⟩) | (go_at_call 201; refine (l3bare_calls _ _ _ _ _ _ _ _ _ _ _ _ _ _ _ _).mono ?_; rintro e w2 ⟨rfl, hb2⟩; replace hb2 := below_call (below_alloc _ _) hb2))
  all_goals go_ret
  all_goals refine ⟨ret_bool ?_, by first | exact hb2 | exact below_alloc _ _⟩
  all_goals unfold stB
  all_goals rw [HK.out]
  all_goals simp [bareB, *]

set_option maxRecDepth 100000 in
set_option maxHeartbeats 2000000 in
theorem st6_calls (L : Nat) (n : Nat) (nd : Nat → ND) (a : Option Addr) (cap : Nat) (nas : Nat → NA) (m : Nat) (w : World) (hS : StAt L w n nd a nas m) (hk : (nd m).k = 6) :
    Calls Tryz.prog 125 #[.slice a n cap, .int .i64 m] w fun e w' => e = .returned (.bool (stB nd m)) ∧ Below w.heap.size w w' := by
  have HS : Hid (StAt L w n nd a nas m) := hS
  have hm := hS.lt
  clear hS
  obtain ⟨b, off, rfl, _, hb, d0, d1, d2, d3, d4, d5, d6, d7⟩ := cells8 HS.out.at'.1 hm
  have hkn := HS.out.sm.kn
  have q1 : ((nd m).k == 1) = false := by rw [hk]; rfl
  have q2 : ((nd m).k == 2) = false := by rw [hk]; rfl
  have q3 : ((nd m).k == 3) = false := by rw [hk]; rfl
  have q4 : ((nd m).k == 4) = false := by rw [hk]; rfl
  have q14 : ((nd m).k == 14) = false := by rw [hk]; rfl
  have q5 : ((nd m).k == 5) = false := by rw [hk]; rfl
  have q6 : ((nd m).k == 6) = true := by rw [hk]; rfl
  have HK : Hid ((nd m).k = 6) := hk
  clear hk
  go_enter Tryz.func125, Tryz.ntmps125
  go_wp2_with (first | (go_at_call 200; refine (l3kidI L n nd _ cap nas m _ (by omega) _ hm (HS.out.at'.alloc _)).mono ?_; rintro e w1 ⟨rfl, rfl⟩) | (go_at_call 202; refine (l3exprsI L n nd _ cap nas m _ _ _ hm (by omega) (by omega) (by omega) (by first | exact HS.out.at'.alloc _ | exact HS.out.at'.below hb2)).mono ?_; rintro e w1 ⟨rfl, rfl⟩) | (go_at_call 201; refine (l3bare_calls _ _ _ _ _ _ _ _ _ _ _ _ _ _ _ _).mono ?_; rintro e w2 ⟨rfl, hb2⟩; replace hb2 := below_call (below_alloc _ _) hb2))
  all_goals go_ret
  all_goals refine ⟨ret_bool ?_, by first | exact hb2 | exact below_alloc _ _⟩
  all_goals unfold stB
  all_goals rw [HK.out]
  all_goals simp [bareB, blkB, *]

end Go.Proofs.YtiidepafifodjabGreat

/-! The specification's check of a unit: statements. -/
namespace Go.Proofs.YtiidepafifodjabGreat
open Go.RowKit
attribute [local go_sem] run_store_float
attribute [local go_sem ↓] Go.wp_at_zero Go.wp_at_succ

set_option maxRecDepth 100000 in
set_option maxHeartbeats 2000000 in
theorem st7_calls (L : Nat) (n : Nat) (nd : Nat → ND) (a : Option Addr) (cap : Nat) (nas : Nat → NA) (m : Nat) (w : World) (hS : StAt L w n nd a nas m) (hk : (nd m).k = 7) :
    Calls Tryz.prog 125 #[.slice a n cap, .int .i64 m] w fun e w' => e = .returned (.bool (stB nd m)) ∧ Below w.heap.size w w' := by
  have HS : Hid (StAt L w n nd a nas m) := hS
  have hm := hS.lt
  clear hS
  obtain ⟨b, off, rfl, _, hb, d0, d1, d2, d3, d4, d5, d6, d7⟩ := cells8 HS.out.at'.1 hm
  have hkn := HS.out.sm.kn
  have q1 : ((nd m).k == 1) = false := by rw [hk]; rfl
  have q2 : ((nd m).k == 2) = false := by rw [hk]; rfl
  have q3 : ((nd m).k == 3) = false := by rw [hk]; rfl
  have q4 : ((nd m).k == 4) = false := by rw [hk]; rfl
  have q14 : ((nd m).k == 14) = false := by rw [hk]; rfl
  have q5 : ((nd m).k == 5) = false := by rw [hk]; rfl
  have q6 : ((nd m).k == 6) = false := by rw [hk]; rfl
  have q7 : ((nd m).k == 7) = true := by rw [hk]; rfl
  have HK : Hid ((nd m).k = 7) := hk
  clear hk
  go_enter Tryz.func125, Tryz.ntmps125
  go_wp2_with (first | (go_at_call 200; refine (l3kidI L n nd _ cap nas m _ (by omega) _ hm (HS.out.at'.alloc _)).mono ?_; rintro e w1 ⟨rfl, rfl⟩) | (go_at_call 202; refine (l3exprsI L n nd _ cap nas m _ _ _ hm (by omega) (by omega) (by omega) (by first | exact HS.out.at'.alloc _ | exact HS.out.at'.below hb2)).mono ?_; rintro e w1 ⟨rfl, rfl⟩) | (go_at_call 201; refine (l3bare_calls _ _ _ _ _ _ _ _ _ _ _ _ _ _ _ _).mono ?_; rintro e w2 ⟨rfl, hb2⟩; replace hb2 := below_call (below_alloc _ _) hb2))
  all_goals go_ret
  all_goals refine ⟨ret_bool ?_, by first | exact hb2 | exact below_alloc _ _⟩
  all_goals unfold stB
  all_goals rw [HK.out]
  all_goals simp [bareB, blkB, *]

set_option maxRecDepth 100000 in
set_option maxHeartbeats 2000000 in
theorem st8_calls (L : Nat) (n : Nat) (nd : Nat → ND) (a : Option Addr) (cap : Nat) (nas : Nat → NA) (m : Nat) (w : World) (hS : StAt L w n nd a nas m) (hk : (nd m).k = 8) :
    Calls Tryz.prog 125 #[.slice a n cap, .int .i64 m] w fun e w' => e = .returned (.bool (stB nd m)) ∧ Below w.heap.size w w' := by
  have HS : Hid (StAt L w n nd a nas m) := hS
  have hm := hS.lt
  clear hS
  obtain ⟨b, off, rfl, _, hb, d0, d1, d2, d3, d4, d5, d6, d7⟩ := cells8 HS.out.at'.1 hm
  have hkn := HS.out.sm.kn
  have q1 : ((nd m).k == 1) = false := by rw [hk]; rfl
  have q2 : ((nd m).k == 2) = false := by rw [hk]; rfl
  have q3 : ((nd m).k == 3) = false := by rw [hk]; rfl
  have q4 : ((nd m).k == 4) = false := by rw [hk]; rfl
  have q14 : ((nd m).k == 14) = false := by rw [hk]; rfl
  have q5 : ((nd m).k == 5) = false := by rw [hk]; rfl
  have q6 : ((nd m).k == 6) = false := by rw [hk]; rfl
  have q7 : ((nd m).k == 7) = false := by rw [hk]; rfl
  have q8 : ((nd m).k == 8) = true := by rw [hk]; rfl
  have HK : Hid ((nd m).k = 8) := hk
  clear hk
  go_enter Tryz.func125, Tryz.ntmps125
  go_wp2_with (first | (go_at_call 200; refine (l3kidI L n nd _ cap nas m _ (by omega) _ hm (HS.out.at'.alloc _)).mono ?_; rintro e w1 ⟨rfl, rfl⟩) | (go_at_call 202; refine (l3exprsI L n nd _ cap nas m _ _ _ hm (by omega) (by omega) (by omega) (by first | exact HS.out.at'.alloc _ | exact HS.out.at'.below hb2)).mono ?_; rintro e w1 ⟨rfl, rfl⟩) | (go_at_call 201; refine (l3bare_calls _ _ _ _ _ _ _ _ _ _ _ _ _ _ _ _).mono ?_; rintro e w2 ⟨rfl, hb2⟩; replace hb2 := below_call (below_alloc _ _) hb2))
  all_goals go_ret
  all_goals refine ⟨ret_bool ?_, by first | exact hb2 | exact below_alloc _ _⟩
  all_goals unfold stB
  all_goals rw [HK.out]
  all_goals simp [bareB, blkB, *] <;> (intros; omega)

set_option maxRecDepth 100000 in
set_option maxHeartbeats 2000000 in
theorem st9_calls (L : Nat) (n : Nat) (nd : Nat → ND) (a : Option Addr) (cap : Nat) (nas : Nat → NA) (m : Nat) (w : World) (hS : StAt L w n nd a nas m) (hk : (nd m).k = 9) :
    Calls Tryz.prog 125 #[.slice a n cap, .int .i64 m] w fun e w' => e = .returned (.bool (stB nd m)) ∧ Below w.heap.size w w' := by
  have HS : Hid (StAt L w n nd a nas m) := hS
  have hm := hS.lt
  clear hS
  obtain ⟨b, off, rfl, _, hb, d0, d1, d2, d3, d4, d5, d6, d7⟩ := cells8 HS.out.at'.1 hm
  have hkn := HS.out.sm.kn
  have q1 : ((nd m).k == 1) = false := by rw [hk]; rfl
  have q2 : ((nd m).k == 2) = false := by rw [hk]; rfl
  have q3 : ((nd m).k == 3) = false := by rw [hk]; rfl
  have q4 : ((nd m).k == 4) = false := by rw [hk]; rfl
  have q14 : ((nd m).k == 14) = false := by rw [hk]; rfl
  have q5 : ((nd m).k == 5) = false := by rw [hk]; rfl
  have q6 : ((nd m).k == 6) = false := by rw [hk]; rfl
  have q7 : ((nd m).k == 7) = false := by rw [hk]; rfl
  have q8 : ((nd m).k == 8) = false := by rw [hk]; rfl
  have q9 : ((nd m).k == 9) = true := by rw [hk]; rfl
  have HK : Hid ((nd m).k = 9) := hk
  clear hk
  go_enter Tryz.func125, Tryz.ntmps125
  go_wp2_with (first | (go_at_call 200; refine (l3kidI L n nd _ cap nas m _ (by omega) _ hm (HS.out.at'.alloc _)).mono ?_; rintro e w1 ⟨rfl, rfl⟩) | (go_at_call 202; refine (l3exprsI L n nd _ cap nas m _ _ _ hm (by omega) (by omega) (by omega) (by first | exact HS.out.at'.alloc _ | exact HS.out.at'.below hb2)).mono ?_; rintro e w1 ⟨rfl, rfl⟩) | (go_at_call 201; refine (l3bare_calls _ _ _ _ _ _ _ _ _ _ _ _ _ _ _ _).mono ?_; rintro e w2 ⟨rfl, hb2⟩; replace hb2 := below_call (below_alloc _ _) hb2))
  all_goals go_ret
  all_goals refine ⟨ret_bool ?_, by first | exact hb2 | exact below_alloc _ _⟩
  all_goals unfold stB
  all_goals rw [HK.out]
  all_goals simp [bareB, *]

set_option maxRecDepth 100000 in
set_option maxHeartbeats 2000000 in
theorem st10_calls (L : Nat) (n : Nat) (nd : Nat → ND) (a : Option Addr) (cap : Nat) (nas : Nat → NA) (m : Nat) (w : World) (hS : StAt L w n nd a nas m) (hk : (nd m).k = 10) :
    Calls Tryz.prog 125 #[.slice a n cap, .int .i64 m] w fun e w' => e = .returned (.bool (stB nd m)) ∧ Below w.heap.size w w' := by
  have HS : Hid (StAt L w n nd a nas m) := hS
  have hm := hS.lt
  clear hS
  obtain ⟨b, off, rfl, _, hb, d0, d1, d2, d3, d4, d5, d6, d7⟩ := cells8 HS.out.at'.1 hm
  have hkn := HS.out.sm.kn
  have q1 : ((nd m).k == 1) = false := by rw [hk]; rfl
  have q2 : ((nd m).k == 2) = false := by rw [hk]; rfl
  have q3 : ((nd m).k == 3) = false := by rw [hk]; rfl
  have q4 : ((nd m).k == 4) = false := by rw [hk]; rfl
  have q14 : ((nd m).k == 14) = false := by rw [hk]; rfl
  have q5 : ((nd m).k == 5) = false := by rw [hk]; rfl
  have q6 : ((nd m).k == 6) = false := by rw [hk]; rfl
  have q7 : ((nd m).k == 7) = false := by rw [hk]; rfl
  have q8 : ((nd m).k == 8) = false := by rw [hk]; rfl
  have q9 : ((nd m).k == 9) = false := by rw [hk]; rfl
  have q10 : ((nd m).k == 10) = true := by rw [hk]; rfl
  have HK : Hid ((nd m).k = 10) := hk
  clear hk
  go_enter Tryz.func125, Tryz.ntmps125
  go_wp2_with (first | (go_at_call 200; refine (l3kidI L n nd _ cap nas m _ (by omega) _ hm (HS.out.at'.alloc _)).mono ?_; rintro e w1 ⟨rfl, rfl⟩) | (go_at_call 202; refine (l3exprsI L n nd _ cap nas m _ _ _ hm (by omega) (by omega) (by omega) (by first | exact HS.out.at'.alloc _ | exact HS.out.at'.below hb2)).mono ?_; rintro e w1 ⟨rfl, rfl⟩) | (go_at_call 201; refine (l3bare_calls _ _ _ _ _ _ _ _ _ _ _ _ _ _ _ _).mono ?_; rintro e w2 ⟨rfl, hb2⟩; replace hb2 := below_call (below_alloc _ _) hb2))
  all_goals go_ret
  all_goals refine ⟨ret_bool ?_, by first | exact hb2 | exact below_alloc _ _⟩
  all_goals unfold stB
  all_goals rw [HK.out]
  all_goals simp [bareB, *]

end Go.Proofs.YtiidepafifodjabGreat

/-! The specification's check of a unit: statements. -/
namespace Go.Proofs.YtiidepafifodjabGreat
open Go.RowKit
attribute [local go_sem] run_store_float
attribute [local go_sem ↓] Go.wp_at_zero Go.wp_at_succ

set_option maxRecDepth 100000 in
set_option maxHeartbeats 2000000 in
theorem st11_calls (L : Nat) (n : Nat) (nd : Nat → ND) (a : Option Addr) (cap : Nat) (nas : Nat → NA) (m : Nat) (w : World) (hS : StAt L w n nd a nas m) (hk : (nd m).k = 11) :
    Calls Tryz.prog 125 #[.slice a n cap, .int .i64 m] w fun e w' => e = .returned (.bool (stB nd m)) ∧ Below w.heap.size w w' := by
  have HS : Hid (StAt L w n nd a nas m) := hS
  have hm := hS.lt
  clear hS
  obtain ⟨b, off, rfl, _, hb, d0, d1, d2, d3, d4, d5, d6, d7⟩ := cells8 HS.out.at'.1 hm
  have hkn := HS.out.sm.kn
  have q1 : ((nd m).k == 1) = false := by rw [hk]; rfl
  have q2 : ((nd m).k == 2) = false := by rw [hk]; rfl
  have q3 : ((nd m).k == 3) = false := by rw [hk]; rfl
  have q4 : ((nd m).k == 4) = false := by rw [hk]; rfl
  have q14 : ((nd m).k == 14) = false := by rw [hk]; rfl
  have q5 : ((nd m).k == 5) = false := by rw [hk]; rfl
  have q6 : ((nd m).k == 6) = false := by rw [hk]; rfl
  have q7 : ((nd m).k == 7) = false := by rw [hk]; rfl
  have q8 : ((nd m).k == 8) = false := by rw [hk]; rfl
  have q9 : ((nd m).k == 9) = false := by rw [hk]; rfl
  have q10 : ((nd m).k == 10) = false := by rw [hk]; rfl
  have q11 : ((nd m).k == 11) = true := by rw [hk]; rfl
  have HK : Hid ((nd m).k = 11) := hk
  clear hk
  go_enter Tryz.func125, Tryz.ntmps125
  go_wp2_with (first | (go_at_call 200; refine (l3kidI L n nd _ cap nas m _ (by omega) _ hm (HS.out.at'.alloc _)).mono ?_; rintro e w1 ⟨rfl, rfl⟩) | (go_at_call 202; refine (l3exprsI L n nd _ cap nas m _ _ _ hm (by omega) (by omega) (by omega) (by first | exact HS.out.at'.alloc _ | exact HS.out.at'.below hb2)).mono ?_; rintro e w1 ⟨rfl, rfl⟩) | (go_at_call 201; refine (l3bare_calls _ _ _ _ _ _ _ _ _ _ _ _ _ _ _ _).mono ?_; rintro e w2 ⟨rfl, hb2⟩; replace hb2 := below_call (below_alloc _ _) hb2))
  all_goals go_ret
  all_goals refine ⟨ret_bool ?_, by first | exact hb2 | exact below_alloc _ _⟩
  all_goals unfold stB
  all_goals rw [HK.out]
  all_goals simp [bareB, *]

set_option maxRecDepth 100000 in
set_option maxHeartbeats 2000000 in
theorem st12_calls (L : Nat) (n : Nat) (nd : Nat → ND) (a : Option Addr) (cap : Nat) (nas : Nat → NA) (m : Nat) (w : World) (hS : StAt L w n nd a nas m) (hk : (nd m).k = 12) :
    Calls Tryz.prog 125 #[.slice a n cap, .int .i64 m] w fun e w' => e = .returned (.bool (stB nd m)) ∧ Below w.heap.size w w' := by
  have HS : Hid (StAt L w n nd a nas m) := hS
  have hm := hS.lt
  clear hS
  obtain ⟨b, off, rfl, _, hb, d0, d1, d2, d3, d4, d5, d6, d7⟩ := cells8 HS.out.at'.1 hm
  have hkn := HS.out.sm.kn
  have q1 : ((nd m).k == 1) = false := by rw [hk]; rfl
  have q2 : ((nd m).k == 2) = false := by rw [hk]; rfl
  have q3 : ((nd m).k == 3) = false := by rw [hk]; rfl
  have q4 : ((nd m).k == 4) = false := by rw [hk]; rfl
  have q14 : ((nd m).k == 14) = false := by rw [hk]; rfl
  have q5 : ((nd m).k == 5) = false := by rw [hk]; rfl
  have q6 : ((nd m).k == 6) = false := by rw [hk]; rfl
  have q7 : ((nd m).k == 7) = false := by rw [hk]; rfl
  have q8 : ((nd m).k == 8) = false := by rw [hk]; rfl
  have q9 : ((nd m).k == 9) = false := by rw [hk]; rfl
  have q10 : ((nd m).k == 10) = false := by rw [hk]; rfl
  have q11 : ((nd m).k == 11) = false := by rw [hk]; rfl
  have q12 : ((nd m).k == 12) = true := by rw [hk]; rfl
  have HK : Hid ((nd m).k = 12) := hk
  clear hk
  go_enter Tryz.func125, Tryz.ntmps125
  go_wp2_with (first | (go_at_call 200; refine (l3kidI L n nd _ cap nas m _ (by omega) _ hm (HS.out.at'.alloc _)).mono ?_; rintro e w1 ⟨rfl, rfl⟩) | (go_at_call 202; refine (l3exprsI L n nd _ cap nas m _ _ _ hm (by omega) (by omega) (by omega) (by first | exact HS.out.at'.alloc _ | exact HS.out.at'.below hb2)).mono ?_; rintro e w1 ⟨rfl, rfl⟩) | (go_at_call 201; refine (l3bare_calls _ _ _ _ _ _ _ _ _ _ _ _ _ _ _ _).mono ?_; rintro e w2 ⟨rfl, hb2⟩; replace hb2 := below_call (below_alloc _ _) hb2))
  all_goals go_ret
  all_goals refine ⟨ret_bool ?_, by first | exact hb2 | exact below_alloc _ _⟩
  all_goals unfold stB
  all_goals rw [HK.out]
  all_goals simp [bareB, blkB, *]

set_option maxRecDepth 100000 in
set_option maxHeartbeats 2000000 in
theorem st13_calls (L : Nat) (n : Nat) (nd : Nat → ND) (a : Option Addr) (cap : Nat) (nas : Nat → NA) (m : Nat) (w : World) (hS : StAt L w n nd a nas m) (hk : (nd m).k = 13) :
    Calls Tryz.prog 125 #[.slice a n cap, .int .i64 m] w fun e w' => e = .returned (.bool (stB nd m)) ∧ Below w.heap.size w w' := by
  have HS : Hid (StAt L w n nd a nas m) := hS
  have hm := hS.lt
  clear hS
  obtain ⟨b, off, rfl, _, hb, d0, d1, d2, d3, d4, d5, d6, d7⟩ := cells8 HS.out.at'.1 hm
  have hkn := HS.out.sm.kn
  have q1 : ((nd m).k == 1) = false := by rw [hk]; rfl
  have q2 : ((nd m).k == 2) = false := by rw [hk]; rfl
  have q3 : ((nd m).k == 3) = false := by rw [hk]; rfl
  have q4 : ((nd m).k == 4) = false := by rw [hk]; rfl
  have q14 : ((nd m).k == 14) = false := by rw [hk]; rfl
  have q5 : ((nd m).k == 5) = false := by rw [hk]; rfl
  have q6 : ((nd m).k == 6) = false := by rw [hk]; rfl
  have q7 : ((nd m).k == 7) = false := by rw [hk]; rfl
  have q8 : ((nd m).k == 8) = false := by rw [hk]; rfl
  have q9 : ((nd m).k == 9) = false := by rw [hk]; rfl
  have q10 : ((nd m).k == 10) = false := by rw [hk]; rfl
  have q11 : ((nd m).k == 11) = false := by rw [hk]; rfl
  have q12 : ((nd m).k == 12) = false := by rw [hk]; rfl
  have q13 : ((nd m).k == 13) = true := by rw [hk]; rfl
  have HK : Hid ((nd m).k = 13) := hk
  clear hk
  go_enter Tryz.func125, Tryz.ntmps125
  go_wp2_with (first | (go_at_call 200; refine (l3kidI L n nd _ cap nas m _ (by omega) _ hm (HS.out.at'.alloc _)).mono ?_; rintro e w1 ⟨rfl, rfl⟩) | (go_at_call 202; refine (l3exprsI L n nd _ cap nas m _ _ _ hm (by omega) (by omega) (by omega) (by first | exact HS.out.at'.alloc _ | exact HS.out.at'.below hb2)).mono ?_; rintro e w1 ⟨rfl, rfl⟩) | (go_at_call 201; refine (l3bare_calls _ _ _ _ _ _ _ _ _ _ _ _ _ _ _ _).mono ?_; rintro e w2 ⟨rfl, hb2⟩; replace hb2 := below_call (below_alloc _ _) hb2))
  all_goals go_ret
  all_goals refine ⟨ret_bool ?_, by first | exact hb2 | exact below_alloc _ _⟩
  all_goals unfold stB
  all_goals rw [HK.out]
  all_goals simp [bareB, *]

set_option maxRecDepth 100000 in
set_option maxHeartbeats 2000000 in
theorem st2_calls (L : Nat) (n : Nat) (nd : Nat → ND) (a : Option Addr) (cap : Nat) (nas : Nat → NA) (m : Nat) (w : World) (hS : StAt L w n nd a nas m) (hk : (nd m).k = 2) :
    Calls Tryz.prog 125 #[.slice a n cap, .int .i64 m] w fun e w' => e = .returned (.bool (stB nd m)) ∧ Below w.heap.size w w' := by
  have HS : Hid (StAt L w n nd a nas m) := hS
  have hm := hS.lt
  clear hS
  obtain ⟨b, off, rfl, _, hb, d0, d1, d2, d3, d4, d5, d6, d7⟩ := cells8 HS.out.at'.1 hm
  have hkn := HS.out.sm.kn
  have q1 : ((nd m).k == 1) = false := by rw [hk]; rfl
  have q2 : ((nd m).k == 2) = true := by rw [hk]; rfl
  have HK : Hid ((nd m).k = 2) := hk
  clear hk
  go_enter Tryz.func125, Tryz.ntmps125
  go_wp2_with (first | (go_at_call 200; refine (l3kidI L n nd _ cap nas m _ (by omega) _ hm (HS.out.at'.alloc _)).mono ?_; rintro e w1 ⟨rfl, rfl⟩) | (go_at_call 202; refine (l3exprsI L n nd _ cap nas m _ _ _ hm (by omega) (by omega) (by omega) (by first | exact HS.out.at'.alloc _ | exact HS.out.at'.below hb2)).mono ?_; rintro e w1 ⟨rfl, rfl⟩) | (go_at_call 201; refine (l3bare_calls _ _ _ _ _ _ _ _ _ _ _ _ _ _ _ _).mono ?_; rintro e w2 ⟨rfl, hb2⟩; replace hb2 := below_call (below_alloc _ _) hb2))
  all_goals go_ret
  all_goals refine ⟨ret_bool ?_, by first | exact hb2 | exact below_alloc _ _⟩
  all_goals unfold stB
  all_goals rw [HK.out]
  all_goals simp [bareB, *]

end Go.Proofs.YtiidepafifodjabGreat
