import Derived.Test.YtcpjnddkibbddaaGreatSpG
/-! The specification's check of a unit: expressions. -/
namespace Go.Proofs.YtcpjnddkibbddaaGreat
open Go.RowKit
attribute [local go_sem] run_store_float
attribute [local go_sem ↓] Go.wp_at_zero Go.wp_at_succ

set_option maxRecDepth 100000 in
set_option maxHeartbeats 4000000 in
theorem ex24_calls (L : Nat) (n : Nat) (nd : Nat → ND) (a : Option Addr) (cap : Nat) (nas : Nat → NA) (m : Nat) (w : World) (hS : StAt L w n nd a nas m) (hk : (nd m).k = 24) :
    Calls Tryz.prog 82 #[.slice a n cap, .int .i64 m] w fun e w' => e = .returned (.bool (epB nd m)) ∧ Below w.heap.size w w' := by
  have HS : Hid (StAt L w n nd a nas m) := hS
  have hm := hS.lt
  clear hS
  obtain ⟨b, off, rfl, _, hb, d0, d1, d2, d3, d4, d5, d6, d7⟩ := cells8 HS.out.at'.1 hm
  have hkn := HS.out.sm.kn
  have hsz := HS.out.sm.s
  have q20 : ((nd m).k == 20) = false := by rw [hk]; rfl
  have q21 : ((nd m).k == 21) = false := by rw [hk]; rfl
  have q22 : ((nd m).k == 22) = false := by rw [hk]; rfl
  have q37 : ((nd m).k == 37) = false := by rw [hk]; rfl
  have q23 : ((nd m).k == 23) = false := by rw [hk]; rfl
  have q24 : ((nd m).k == 24) = true := by rw [hk]; rfl
  have HK : Hid ((nd m).k = 24) := hk
  clear hk
  go_enter Tryz.func82, Tryz.ntmps82
  go_wp2_with (first | (go_at_call 137; refine (l3kidI L n nd _ cap nas m _ (by omega) _ hm (HS.out.at'.alloc _)).mono ?_; rintro e w1 ⟨rfl, rfl⟩) | (go_at_call 139; refine (l3exprsI L n nd _ cap nas m _ _ _ hm (by omega) (by omega) (by omega) (by first | exact HS.out.at'.alloc _ | exact HS.out.at'.below hb2)).mono ?_; rintro e w1 ⟨rfl, rfl⟩) | (go_at_call 141; refine (l3many_calls _ _).mono ?_; rintro e w1 ⟨rfl, rfl⟩) | (go_at_call 138; refine (l3bare_calls _ _ _ _ _ _ _ _ _ _ _ _ _ _ _ _).mono ?_; rintro e w2 ⟨rfl, hb2⟩; replace hb2 := below_call (below_alloc _ _) hb2))
  all_goals go_ret
  all_goals refine ⟨ret_bool ?_, by first | exact hb2 | exact below_alloc _ _⟩
  all_goals unfold epB
  all_goals rw [HK.out]
  all_goals simp [nnB, bareB, *]

set_option maxRecDepth 100000 in
set_option maxHeartbeats 4000000 in
theorem ex25_calls (L : Nat) (n : Nat) (nd : Nat → ND) (a : Option Addr) (cap : Nat) (nas : Nat → NA) (m : Nat) (w : World) (hS : StAt L w n nd a nas m) (hk : (nd m).k = 25) :
    Calls Tryz.prog 82 #[.slice a n cap, .int .i64 m] w fun e w' => e = .returned (.bool (epB nd m)) ∧ Below w.heap.size w w' := by
  have HS : Hid (StAt L w n nd a nas m) := hS
  have hm := hS.lt
  clear hS
  obtain ⟨b, off, rfl, _, hb, d0, d1, d2, d3, d4, d5, d6, d7⟩ := cells8 HS.out.at'.1 hm
  have hkn := HS.out.sm.kn
  have hsz := HS.out.sm.s
  have q20 : ((nd m).k == 20) = false := by rw [hk]; rfl
  have q21 : ((nd m).k == 21) = false := by rw [hk]; rfl
  have q22 : ((nd m).k == 22) = false := by rw [hk]; rfl
  have q37 : ((nd m).k == 37) = false := by rw [hk]; rfl
  have q23 : ((nd m).k == 23) = false := by rw [hk]; rfl
  have q24 : ((nd m).k == 24) = false := by rw [hk]; rfl
  have q25 : ((nd m).k == 25) = true := by rw [hk]; rfl
  have HK : Hid ((nd m).k = 25) := hk
  clear hk
  go_enter Tryz.func82, Tryz.ntmps82
  go_wp2_with (first | (go_at_call 137; refine (l3kidI L n nd _ cap nas m _ (by omega) _ hm (HS.out.at'.alloc _)).mono ?_; rintro e w1 ⟨rfl, rfl⟩) | (go_at_call 139; refine (l3exprsI L n nd _ cap nas m _ _ _ hm (by omega) (by omega) (by omega) (by first | exact HS.out.at'.alloc _ | exact HS.out.at'.below hb2)).mono ?_; rintro e w1 ⟨rfl, rfl⟩) | (go_at_call 141; refine (l3many_calls _ _).mono ?_; rintro e w1 ⟨rfl, rfl⟩) | (go_at_call 138; refine (l3bare_calls _ _ _ _ _ _ _ _ _ _ _ _ _ _ _ _).mono ?_; rintro e w2 ⟨rfl, hb2⟩; replace hb2 := below_call (below_alloc _ _) hb2))
  all_goals go_ret
  all_goals refine ⟨ret_bool ?_, by first | exact hb2 | exact below_alloc _ _⟩
  all_goals unfold epB
  all_goals rw [HK.out]
  all_goals simp [bareB, *] <;> (intros; omega)

set_option maxRecDepth 100000 in
set_option maxHeartbeats 4000000 in
theorem ex26_calls (L : Nat) (n : Nat) (nd : Nat → ND) (a : Option Addr) (cap : Nat) (nas : Nat → NA) (m : Nat) (w : World) (hS : StAt L w n nd a nas m) (hk : (nd m).k = 26) :
    Calls Tryz.prog 82 #[.slice a n cap, .int .i64 m] w fun e w' => e = .returned (.bool (epB nd m)) ∧ Below w.heap.size w w' := by
  have HS : Hid (StAt L w n nd a nas m) := hS
  have hm := hS.lt
  clear hS
  obtain ⟨b, off, rfl, _, hb, d0, d1, d2, d3, d4, d5, d6, d7⟩ := cells8 HS.out.at'.1 hm
  have hkn := HS.out.sm.kn
  have hsz := HS.out.sm.s
  have q20 : ((nd m).k == 20) = false := by rw [hk]; rfl
  have q21 : ((nd m).k == 21) = false := by rw [hk]; rfl
  have q22 : ((nd m).k == 22) = false := by rw [hk]; rfl
  have q37 : ((nd m).k == 37) = false := by rw [hk]; rfl
  have q23 : ((nd m).k == 23) = false := by rw [hk]; rfl
  have q24 : ((nd m).k == 24) = false := by rw [hk]; rfl
  have q25 : ((nd m).k == 25) = false := by rw [hk]; rfl
  have q26 : ((nd m).k == 26) = true := by rw [hk]; rfl
  have HK : Hid ((nd m).k = 26) := hk
  clear hk
  go_enter Tryz.func82, Tryz.ntmps82
  go_wp2_with (first | (go_at_call 137; refine (l3kidI L n nd _ cap nas m _ (by omega) _ hm (HS.out.at'.alloc _)).mono ?_; rintro e w1 ⟨rfl, rfl⟩) | (go_at_call 139; refine (l3exprsI L n nd _ cap nas m _ _ _ hm (by omega) (by omega) (by omega) (by first | exact HS.out.at'.alloc _ | exact HS.out.at'.below hb2)).mono ?_; rintro e w1 ⟨rfl, rfl⟩) | (go_at_call 141; refine (l3many_calls _ _).mono ?_; rintro e w1 ⟨rfl, rfl⟩) | (go_at_call 138; refine (l3bare_calls _ _ _ _ _ _ _ _ _ _ _ _ _ _ _ _).mono ?_; rintro e w2 ⟨rfl, hb2⟩; replace hb2 := below_call (below_alloc _ _) hb2))
  all_goals go_ret
  all_goals refine ⟨ret_bool ?_, by first | exact hb2 | exact below_alloc _ _⟩
  all_goals unfold epB
  all_goals rw [HK.out]
  all_goals simp [bareB, *]

set_option maxRecDepth 100000 in
set_option maxHeartbeats 4000000 in
theorem ex27_calls (L : Nat) (n : Nat) (nd : Nat → ND) (a : Option Addr) (cap : Nat) (nas : Nat → NA) (m : Nat) (w : World) (hS : StAt L w n nd a nas m) (hk : (nd m).k = 27) :
    Calls Tryz.prog 82 #[.slice a n cap, .int .i64 m] w fun e w' => e = .returned (.bool (epB nd m)) ∧ Below w.heap.size w w' := by
  have HS : Hid (StAt L w n nd a nas m) := hS
  have hm := hS.lt
  clear hS
  obtain ⟨b, off, rfl, _, hb, d0, d1, d2, d3, d4, d5, d6, d7⟩ := cells8 HS.out.at'.1 hm
  have hkn := HS.out.sm.kn
  have hsz := HS.out.sm.s
  have q20 : ((nd m).k == 20) = false := by rw [hk]; rfl
  have q21 : ((nd m).k == 21) = false := by rw [hk]; rfl
  have q22 : ((nd m).k == 22) = false := by rw [hk]; rfl
  have q37 : ((nd m).k == 37) = false := by rw [hk]; rfl
  have q23 : ((nd m).k == 23) = false := by rw [hk]; rfl
  have q24 : ((nd m).k == 24) = false := by rw [hk]; rfl
  have q25 : ((nd m).k == 25) = false := by rw [hk]; rfl
  have q26 : ((nd m).k == 26) = false := by rw [hk]; rfl
  have q27 : ((nd m).k == 27) = true := by rw [hk]; rfl
  have HK : Hid ((nd m).k = 27) := hk
  clear hk
  go_enter Tryz.func82, Tryz.ntmps82
  go_wp2_with (first | (go_at_call 137; refine (l3kidI L n nd _ cap nas m _ (by omega) _ hm (HS.out.at'.alloc _)).mono ?_; rintro e w1 ⟨rfl, rfl⟩) | (go_at_call 139; refine (l3exprsI L n nd _ cap nas m _ _ _ hm (by omega) (by omega) (by omega) (by first | exact HS.out.at'.alloc _ | exact HS.out.at'.below hb2)).mono ?_; rintro e w1 ⟨rfl, rfl⟩) | (go_at_call 141; refine (l3many_calls _ _).mono ?_; rintro e w1 ⟨rfl, rfl⟩) | (go_at_call 138; refine (l3bare_calls _ _ _ _ _ _ _ _ _ _ _ _ _ _ _ _).mono ?_; rintro e w2 ⟨rfl, hb2⟩; replace hb2 := below_call (below_alloc _ _) hb2))
  all_goals go_ret
  all_goals refine ⟨ret_bool ?_, by first | exact hb2 | exact below_alloc _ _⟩
  all_goals unfold epB
  all_goals rw [HK.out]
  all_goals simp [bareB, *]

set_option maxRecDepth 100000 in
set_option maxHeartbeats 4000000 in
theorem ex36_calls (L : Nat) (n : Nat) (nd : Nat → ND) (a : Option Addr) (cap : Nat) (nas : Nat → NA) (m : Nat) (w : World) (hS : StAt L w n nd a nas m) (hk : (nd m).k = 36) :
    Calls Tryz.prog 82 #[.slice a n cap, .int .i64 m] w fun e w' => e = .returned (.bool (epB nd m)) ∧ Below w.heap.size w w' := by
  have HS : Hid (StAt L w n nd a nas m) := hS
  have hm := hS.lt
  clear hS
  obtain ⟨b, off, rfl, _, hb, d0, d1, d2, d3, d4, d5, d6, d7⟩ := cells8 HS.out.at'.1 hm
  have hkn := HS.out.sm.kn
  have hsz := HS.out.sm.s
  have q20 : ((nd m).k == 20) = false := by rw [hk]; rfl
  have q21 : ((nd m).k == 21) = false := by rw [hk]; rfl
  have q22 : ((nd m).k == 22) = false := by rw [hk]; rfl
  have q37 : ((nd m).k == 37) = false := by rw [hk]; rfl
  have q23 : ((nd m).k == 23) = false := by rw [hk]; rfl
  have q24 : ((nd m).k == 24) = false := by rw [hk]; rfl
  have q25 : ((nd m).k == 25) = false := by rw [hk]; rfl
  have q26 : ((nd m).k == 26) = false := by rw [hk]; rfl
  have q27 : ((nd m).k == 27) = false := by rw [hk]; rfl
  have q36 : ((nd m).k == 36) = true := by rw [hk]; rfl
  have HK : Hid ((nd m).k = 36) := hk
  clear hk
  go_enter Tryz.func82, Tryz.ntmps82
  go_wp2_with (first | (go_at_call 137; refine (l3kidI L n nd _ cap nas m _ (by omega) _ hm (HS.out.at'.alloc _)).mono ?_; rintro e w1 ⟨rfl, rfl⟩) | (go_at_call 139; refine (l3exprsI L n nd _ cap nas m _ _ _ hm (by omega) (by omega) (by omega) (by first | exact HS.out.at'.alloc _ | exact HS.out.at'.below hb2)).mono ?_; rintro e w1 ⟨rfl, rfl⟩) | (go_at_call 141; refine (l3many_calls _ _).mono ?_; rintro e w1 ⟨rfl, rfl⟩) | (go_at_call 138; refine (l3bare_calls _ _ _ _ _ _ _ _ _ _ _ _ _ _ _ _).mono ?_; rintro e w2 ⟨rfl, hb2⟩; replace hb2 := below_call (below_alloc _ _) hb2))
  all_goals go_ret
  all_goals refine ⟨ret_bool ?_, by first | exact hb2 | exact below_alloc _ _⟩
  all_goals unfold epB
  all_goals rw [HK.out]
  all_goals simp [bareB, *]

end Go.Proofs.YtcpjnddkibbddaaGreat

/-! The specification's check of a unit: expressions. -/
namespace Go.Proofs.YtcpjnddkibbddaaGreat
open Go.RowKit
attribute [local go_sem] run_store_float
attribute [local go_sem ↓] Go.wp_at_zero Go.wp_at_succ

set_option maxRecDepth 100000 in
set_option maxHeartbeats 4000000 in
theorem ex28_calls (L : Nat) (n : Nat) (nd : Nat → ND) (a : Option Addr) (cap : Nat) (nas : Nat → NA) (m : Nat) (w : World) (hS : StAt L w n nd a nas m) (hk : (nd m).k = 28) :
    Calls Tryz.prog 82 #[.slice a n cap, .int .i64 m] w fun e w' => e = .returned (.bool (epB nd m)) ∧ Below w.heap.size w w' := by
  have HS : Hid (StAt L w n nd a nas m) := hS
  have hm := hS.lt
  clear hS
  obtain ⟨b, off, rfl, _, hb, d0, d1, d2, d3, d4, d5, d6, d7⟩ := cells8 HS.out.at'.1 hm
  have hkn := HS.out.sm.kn
  have hsz := HS.out.sm.s
  have q20 : ((nd m).k == 20) = false := by rw [hk]; rfl
  have q21 : ((nd m).k == 21) = false := by rw [hk]; rfl
  have q22 : ((nd m).k == 22) = false := by rw [hk]; rfl
  have q37 : ((nd m).k == 37) = false := by rw [hk]; rfl
  have q23 : ((nd m).k == 23) = false := by rw [hk]; rfl
  have q24 : ((nd m).k == 24) = false := by rw [hk]; rfl
  have q25 : ((nd m).k == 25) = false := by rw [hk]; rfl
  have q26 : ((nd m).k == 26) = false := by rw [hk]; rfl
  have q27 : ((nd m).k == 27) = false := by rw [hk]; rfl
  have q36 : ((nd m).k == 36) = false := by rw [hk]; rfl
  have q28 : ((nd m).k == 28) = true := by rw [hk]; rfl
  have HK : Hid ((nd m).k = 28) := hk
  clear hk
  go_enter Tryz.func82, Tryz.ntmps82
  go_wp2_with (first | (go_at_call 137; refine (l3kidI L n nd _ cap nas m _ (by omega) _ hm (HS.out.at'.alloc _)).mono ?_; rintro e w1 ⟨rfl, rfl⟩) | (go_at_call 139; refine (l3exprsI L n nd _ cap nas m _ _ _ hm (by omega) (by omega) (by omega) (by first | exact HS.out.at'.alloc _ | exact HS.out.at'.below hb2)).mono ?_; rintro e w1 ⟨rfl, rfl⟩) | (go_at_call 141; refine (l3many_calls _ _).mono ?_; rintro e w1 ⟨rfl, rfl⟩) | (go_at_call 138; refine (l3bare_calls _ _ _ _ _ _ _ _ _ _ _ _ _ _ _ _).mono ?_; rintro e w2 ⟨rfl, hb2⟩; replace hb2 := below_call (below_alloc _ _) hb2))
  all_goals go_ret
  all_goals refine ⟨ret_bool ?_, by first | exact hb2 | exact below_alloc _ _⟩
  all_goals unfold epB
  all_goals rw [HK.out]
  all_goals simp [bareB, *] <;> (intros; omega)

set_option maxRecDepth 100000 in
set_option maxHeartbeats 4000000 in
theorem ex29_calls (L : Nat) (n : Nat) (nd : Nat → ND) (a : Option Addr) (cap : Nat) (nas : Nat → NA) (m : Nat) (w : World) (hS : StAt L w n nd a nas m) (hk : (nd m).k = 29) :
    Calls Tryz.prog 82 #[.slice a n cap, .int .i64 m] w fun e w' => e = .returned (.bool (epB nd m)) ∧ Below w.heap.size w w' := by
  have HS : Hid (StAt L w n nd a nas m) := hS
  have hm := hS.lt
  clear hS
  obtain ⟨b, off, rfl, _, hb, d0, d1, d2, d3, d4, d5, d6, d7⟩ := cells8 HS.out.at'.1 hm
  have hkn := HS.out.sm.kn
  have hsz := HS.out.sm.s
  have q20 : ((nd m).k == 20) = false := by rw [hk]; rfl
  have q21 : ((nd m).k == 21) = false := by rw [hk]; rfl
  have q22 : ((nd m).k == 22) = false := by rw [hk]; rfl
  have q37 : ((nd m).k == 37) = false := by rw [hk]; rfl
  have q23 : ((nd m).k == 23) = false := by rw [hk]; rfl
  have q24 : ((nd m).k == 24) = false := by rw [hk]; rfl
  have q25 : ((nd m).k == 25) = false := by rw [hk]; rfl
  have q26 : ((nd m).k == 26) = false := by rw [hk]; rfl
  have q27 : ((nd m).k == 27) = false := by rw [hk]; rfl
  have q36 : ((nd m).k == 36) = false := by rw [hk]; rfl
  have q28 : ((nd m).k == 28) = false := by rw [hk]; rfl
  have q29 : ((nd m).k == 29) = true := by rw [hk]; rfl
  have HK : Hid ((nd m).k = 29) := hk
  clear hk
  go_enter Tryz.func82, Tryz.ntmps82
  go_wp2_with (first | (go_at_call 137; refine (l3kidI L n nd _ cap nas m _ (by omega) _ hm (HS.out.at'.alloc _)).mono ?_; rintro e w1 ⟨rfl, rfl⟩) | (go_at_call 139; refine (l3exprsI L n nd _ cap nas m _ _ _ hm (by omega) (by omega) (by omega) (by first | exact HS.out.at'.alloc _ | exact HS.out.at'.below hb2)).mono ?_; rintro e w1 ⟨rfl, rfl⟩) | (go_at_call 141; refine (l3many_calls _ _).mono ?_; rintro e w1 ⟨rfl, rfl⟩) | (go_at_call 138; refine (l3bare_calls _ _ _ _ _ _ _ _ _ _ _ _ _ _ _ _).mono ?_; rintro e w2 ⟨rfl, hb2⟩; replace hb2 := below_call (below_alloc _ _) hb2))
  all_goals go_ret
  all_goals refine ⟨ret_bool ?_, by first | exact hb2 | exact below_alloc _ _⟩
  all_goals unfold epB
  all_goals rw [HK.out]
  all_goals simp [bareB, *]

set_option maxRecDepth 100000 in
set_option maxHeartbeats 4000000 in
theorem ex30_calls (L : Nat) (n : Nat) (nd : Nat → ND) (a : Option Addr) (cap : Nat) (nas : Nat → NA) (m : Nat) (w : World) (hS : StAt L w n nd a nas m) (hk : (nd m).k = 30) :
    Calls Tryz.prog 82 #[.slice a n cap, .int .i64 m] w fun e w' => e = .returned (.bool (epB nd m)) ∧ Below w.heap.size w w' := by
  have HS : Hid (StAt L w n nd a nas m) := hS
  have hm := hS.lt
  clear hS
  obtain ⟨b, off, rfl, _, hb, d0, d1, d2, d3, d4, d5, d6, d7⟩ := cells8 HS.out.at'.1 hm
  have hkn := HS.out.sm.kn
  have hsz := HS.out.sm.s
  have q20 : ((nd m).k == 20) = false := by rw [hk]; rfl
  have q21 : ((nd m).k == 21) = false := by rw [hk]; rfl
  have q22 : ((nd m).k == 22) = false := by rw [hk]; rfl
  have q37 : ((nd m).k == 37) = false := by rw [hk]; rfl
  have q23 : ((nd m).k == 23) = false := by rw [hk]; rfl
  have q24 : ((nd m).k == 24) = false := by rw [hk]; rfl
  have q25 : ((nd m).k == 25) = false := by rw [hk]; rfl
  have q26 : ((nd m).k == 26) = false := by rw [hk]; rfl
  have q27 : ((nd m).k == 27) = false := by rw [hk]; rfl
  have q36 : ((nd m).k == 36) = false := by rw [hk]; rfl
  have q28 : ((nd m).k == 28) = false := by rw [hk]; rfl
  have q29 : ((nd m).k == 29) = false := by rw [hk]; rfl
  have q30 : ((nd m).k == 30) = true := by rw [hk]; rfl
  have HK : Hid ((nd m).k = 30) := hk
  clear hk
  go_enter Tryz.func82, Tryz.ntmps82
  go_wp2_with (first | (go_at_call 137; refine (l3kidI L n nd _ cap nas m _ (by omega) _ hm (HS.out.at'.alloc _)).mono ?_; rintro e w1 ⟨rfl, rfl⟩) | (go_at_call 139; refine (l3exprsI L n nd _ cap nas m _ _ _ hm (by omega) (by omega) (by omega) (by first | exact HS.out.at'.alloc _ | exact HS.out.at'.below hb2)).mono ?_; rintro e w1 ⟨rfl, rfl⟩) | (go_at_call 141; refine (l3many_calls _ _).mono ?_; rintro e w1 ⟨rfl, rfl⟩) | (go_at_call 138; refine (l3bare_calls _ _ _ _ _ _ _ _ _ _ _ _ _ _ _ _).mono ?_; rintro e w2 ⟨rfl, hb2⟩; replace hb2 := below_call (below_alloc _ _) hb2))
  all_goals go_ret
  all_goals refine ⟨ret_bool ?_, by first | exact hb2 | exact below_alloc _ _⟩
  all_goals unfold epB
  all_goals rw [HK.out]
  all_goals simp [bareB, *]

set_option maxRecDepth 100000 in
set_option maxHeartbeats 4000000 in
theorem ex33_calls (L : Nat) (n : Nat) (nd : Nat → ND) (a : Option Addr) (cap : Nat) (nas : Nat → NA) (m : Nat) (w : World) (hS : StAt L w n nd a nas m) (hk : (nd m).k = 33) :
    Calls Tryz.prog 82 #[.slice a n cap, .int .i64 m] w fun e w' => e = .returned (.bool (epB nd m)) ∧ Below w.heap.size w w' := by
  have HS : Hid (StAt L w n nd a nas m) := hS
  have hm := hS.lt
  clear hS
  obtain ⟨b, off, rfl, _, hb, d0, d1, d2, d3, d4, d5, d6, d7⟩ := cells8 HS.out.at'.1 hm
  have hkn := HS.out.sm.kn
  have hsz := HS.out.sm.s
  have q20 : ((nd m).k == 20) = false := by rw [hk]; rfl
  have q21 : ((nd m).k == 21) = false := by rw [hk]; rfl
  have q22 : ((nd m).k == 22) = false := by rw [hk]; rfl
  have q37 : ((nd m).k == 37) = false := by rw [hk]; rfl
  have q23 : ((nd m).k == 23) = false := by rw [hk]; rfl
  have q24 : ((nd m).k == 24) = false := by rw [hk]; rfl
  have q25 : ((nd m).k == 25) = false := by rw [hk]; rfl
  have q26 : ((nd m).k == 26) = false := by rw [hk]; rfl
  have q27 : ((nd m).k == 27) = false := by rw [hk]; rfl
  have q36 : ((nd m).k == 36) = false := by rw [hk]; rfl
  have q28 : ((nd m).k == 28) = false := by rw [hk]; rfl
  have q29 : ((nd m).k == 29) = false := by rw [hk]; rfl
  have q30 : ((nd m).k == 30) = false := by rw [hk]; rfl
  have q33 : ((nd m).k == 33) = true := by rw [hk]; rfl
  have HK : Hid ((nd m).k = 33) := hk
  clear hk
  go_enter Tryz.func82, Tryz.ntmps82
  go_wp2_with (first | (go_at_call 137; refine (l3kidI L n nd _ cap nas m _ (by omega) _ hm (HS.out.at'.alloc _)).mono ?_; rintro e w1 ⟨rfl, rfl⟩) | (go_at_call 139; refine (l3exprsI L n nd _ cap nas m _ _ _ hm (by omega) (by omega) (by omega) (by first | exact HS.out.at'.alloc _ | exact HS.out.at'.below hb2)).mono ?_; rintro e w1 ⟨rfl, rfl⟩) | (go_at_call 141; refine (l3many_calls _ _).mono ?_; rintro e w1 ⟨rfl, rfl⟩) | (go_at_call 138; refine (l3bare_calls _ _ _ _ _ _ _ _ _ _ _ _ _ _ _ _).mono ?_; rintro e w2 ⟨rfl, hb2⟩; replace hb2 := below_call (below_alloc _ _) hb2))
  all_goals go_ret
  all_goals refine ⟨ret_bool ?_, by first | exact hb2 | exact below_alloc _ _⟩
  all_goals unfold epB
  all_goals rw [HK.out]
  all_goals simp [bareB, *]

set_option maxRecDepth 100000 in
set_option maxHeartbeats 4000000 in
theorem ex31_calls (L : Nat) (n : Nat) (nd : Nat → ND) (a : Option Addr) (cap : Nat) (nas : Nat → NA) (m : Nat) (w : World) (hS : StAt L w n nd a nas m) (hk : (nd m).k = 31) :
    Calls Tryz.prog 82 #[.slice a n cap, .int .i64 m] w fun e w' => e = .returned (.bool (epB nd m)) ∧ Below w.heap.size w w' := by
  have HS : Hid (StAt L w n nd a nas m) := hS
  have hm := hS.lt
  clear hS
  obtain ⟨b, off, rfl, _, hb, d0, d1, d2, d3, d4, d5, d6, d7⟩ := cells8 HS.out.at'.1 hm
  have hkn := HS.out.sm.kn
  have hsz := HS.out.sm.s
  have q20 : ((nd m).k == 20) = false := by rw [hk]; rfl
  have q21 : ((nd m).k == 21) = false := by rw [hk]; rfl
  have q22 : ((nd m).k == 22) = false := by rw [hk]; rfl
  have q37 : ((nd m).k == 37) = false := by rw [hk]; rfl
  have q23 : ((nd m).k == 23) = false := by rw [hk]; rfl
  have q24 : ((nd m).k == 24) = false := by rw [hk]; rfl
  have q25 : ((nd m).k == 25) = false := by rw [hk]; rfl
  have q26 : ((nd m).k == 26) = false := by rw [hk]; rfl
  have q27 : ((nd m).k == 27) = false := by rw [hk]; rfl
  have q36 : ((nd m).k == 36) = false := by rw [hk]; rfl
  have q28 : ((nd m).k == 28) = false := by rw [hk]; rfl
  have q29 : ((nd m).k == 29) = false := by rw [hk]; rfl
  have q30 : ((nd m).k == 30) = false := by rw [hk]; rfl
  have q33 : ((nd m).k == 33) = false := by rw [hk]; rfl
  have q31 : ((nd m).k == 31) = true := by rw [hk]; rfl
  have HK : Hid ((nd m).k = 31) := hk
  clear hk
  go_enter Tryz.func82, Tryz.ntmps82
  go_wp2_with (first | (go_at_call 137; refine (l3kidI L n nd _ cap nas m _ (by omega) _ hm (HS.out.at'.alloc _)).mono ?_; rintro e w1 ⟨rfl, rfl⟩) | (go_at_call 139; refine (l3exprsI L n nd _ cap nas m _ _ _ hm (by omega) (by omega) (by omega) (by first | exact HS.out.at'.alloc _ | exact HS.out.at'.below hb2)).mono ?_; rintro e w1 ⟨rfl, rfl⟩) | (go_at_call 141; refine (l3many_calls _ _).mono ?_; rintro e w1 ⟨rfl, rfl⟩) | (go_at_call 138; refine (l3bare_calls _ _ _ _ _ _ _ _ _ _ _ _ _ _ _ _).mono ?_; rintro e w2 ⟨rfl, hb2⟩; replace hb2 := below_call (below_alloc _ _) hb2))
  all_goals go_ret
  all_goals refine ⟨ret_bool ?_, by first | exact hb2 | exact below_alloc _ _⟩
  all_goals unfold epB
  all_goals rw [HK.out]
  all_goals simp [bareB, *] <;> (intros; omega)

end Go.Proofs.YtcpjnddkibbddaaGreat

/-! The specification's check of a unit: expressions. -/
namespace Go.Proofs.YtcpjnddkibbddaaGreat
open Go.RowKit
attribute [local go_sem] run_store_float
attribute [local go_sem ↓] Go.wp_at_zero Go.wp_at_succ

set_option maxRecDepth 100000 in
set_option maxHeartbeats 4000000 in
theorem ex32_calls (L : Nat) (n : Nat) (nd : Nat → ND) (a : Option Addr) (cap : Nat) (nas : Nat → NA) (m : Nat) (w : World) (hS : StAt L w n nd a nas m) (hk : (nd m).k = 32) :
    Calls Tryz.prog 82 #[.slice a n cap, .int .i64 m] w fun e w' => e = .returned (.bool (epB nd m)) ∧ Below w.heap.size w w' := by
  have HS : Hid (StAt L w n nd a nas m) := hS
  have hm := hS.lt
  clear hS
  obtain ⟨b, off, rfl, _, hb, d0, d1, d2, d3, d4, d5, d6, d7⟩ := cells8 HS.out.at'.1 hm
  have hkn := HS.out.sm.kn
  have hsz := HS.out.sm.s
  have q20 : ((nd m).k == 20) = false := by rw [hk]; rfl
  have q21 : ((nd m).k == 21) = false := by rw [hk]; rfl
  have q22 : ((nd m).k == 22) = false := by rw [hk]; rfl
  have q37 : ((nd m).k == 37) = false := by rw [hk]; rfl
  have q23 : ((nd m).k == 23) = false := by rw [hk]; rfl
  have q24 : ((nd m).k == 24) = false := by rw [hk]; rfl
  have q25 : ((nd m).k == 25) = false := by rw [hk]; rfl
  have q26 : ((nd m).k == 26) = false := by rw [hk]; rfl
  have q27 : ((nd m).k == 27) = false := by rw [hk]; rfl
  have q36 : ((nd m).k == 36) = false := by rw [hk]; rfl
  have q28 : ((nd m).k == 28) = false := by rw [hk]; rfl
  have q29 : ((nd m).k == 29) = false := by rw [hk]; rfl
  have q30 : ((nd m).k == 30) = false := by rw [hk]; rfl
  have q33 : ((nd m).k == 33) = false := by rw [hk]; rfl
  have q31 : ((nd m).k == 31) = false := by rw [hk]; rfl
  have q32 : ((nd m).k == 32) = true := by rw [hk]; rfl
  have HK : Hid ((nd m).k = 32) := hk
  clear hk
  go_enter Tryz.func82, Tryz.ntmps82
  go_wp2_with (first | (go_at_call 137; refine (l3kidI L n nd _ cap nas m _ (by omega) _ hm (HS.out.at'.alloc _)).mono ?_; rintro e w1 ⟨rfl, rfl⟩) | (go_at_call 139; refine (l3exprsI L n nd _ cap nas m _ _ _ hm (by omega) (by omega) (by omega) (by first | exact HS.out.at'.alloc _ | exact HS.out.at'.below hb2)).mono ?_; rintro e w1 ⟨rfl, rfl⟩) | (go_at_call 141; refine (l3many_calls _ _).mono ?_; rintro e w1 ⟨rfl, rfl⟩) | (go_at_call 138; refine (l3bare_calls _ _ _ _ _ _ _ _ _ _ _ _ _ _ _ _).mono ?_; rintro e w2 ⟨rfl, hb2⟩; replace hb2 := below_call (below_alloc _ _) hb2))
  all_goals go_ret
  all_goals refine ⟨ret_bool ?_, by first | exact hb2 | exact below_alloc _ _⟩
  all_goals unfold epB
  all_goals rw [HK.out]
  all_goals simp [bareB, *] <;> (intros; omega)

set_option maxRecDepth 100000 in
set_option maxHeartbeats 4000000 in
theorem ex34_calls (L : Nat) (n : Nat) (nd : Nat → ND) (a : Option Addr) (cap : Nat) (nas : Nat → NA) (m : Nat) (w : World) (hS : StAt L w n nd a nas m) (hk : (nd m).k = 34) :
    Calls Tryz.prog 82 #[.slice a n cap, .int .i64 m] w fun e w' => e = .returned (.bool (epB nd m)) ∧ Below w.heap.size w w' := by
  have HS : Hid (StAt L w n nd a nas m) := hS
  have hm := hS.lt
  clear hS
  obtain ⟨b, off, rfl, _, hb, d0, d1, d2, d3, d4, d5, d6, d7⟩ := cells8 HS.out.at'.1 hm
  have hkn := HS.out.sm.kn
  have hsz := HS.out.sm.s
  have q20 : ((nd m).k == 20) = false := by rw [hk]; rfl
  have q21 : ((nd m).k == 21) = false := by rw [hk]; rfl
  have q22 : ((nd m).k == 22) = false := by rw [hk]; rfl
  have q37 : ((nd m).k == 37) = false := by rw [hk]; rfl
  have q23 : ((nd m).k == 23) = false := by rw [hk]; rfl
  have q24 : ((nd m).k == 24) = false := by rw [hk]; rfl
  have q25 : ((nd m).k == 25) = false := by rw [hk]; rfl
  have q26 : ((nd m).k == 26) = false := by rw [hk]; rfl
  have q27 : ((nd m).k == 27) = false := by rw [hk]; rfl
  have q36 : ((nd m).k == 36) = false := by rw [hk]; rfl
  have q28 : ((nd m).k == 28) = false := by rw [hk]; rfl
  have q29 : ((nd m).k == 29) = false := by rw [hk]; rfl
  have q30 : ((nd m).k == 30) = false := by rw [hk]; rfl
  have q33 : ((nd m).k == 33) = false := by rw [hk]; rfl
  have q31 : ((nd m).k == 31) = false := by rw [hk]; rfl
  have q32 : ((nd m).k == 32) = false := by rw [hk]; rfl
  have q34 : ((nd m).k == 34) = true := by rw [hk]; rfl
  have HK : Hid ((nd m).k = 34) := hk
  clear hk
  go_enter Tryz.func82, Tryz.ntmps82
  go_wp2_with (first | (go_at_call 137; refine (l3kidI L n nd _ cap nas m _ (by omega) _ hm (HS.out.at'.alloc _)).mono ?_; rintro e w1 ⟨rfl, rfl⟩) | (go_at_call 139; refine (l3exprsI L n nd _ cap nas m _ _ _ hm (by omega) (by omega) (by omega) (by first | exact HS.out.at'.alloc _ | exact HS.out.at'.below hb2)).mono ?_; rintro e w1 ⟨rfl, rfl⟩) | (go_at_call 141; refine (l3many_calls _ _).mono ?_; rintro e w1 ⟨rfl, rfl⟩) | (go_at_call 138; refine (l3bare_calls _ _ _ _ _ _ _ _ _ _ _ _ _ _ _ _).mono ?_; rintro e w2 ⟨rfl, hb2⟩; replace hb2 := below_call (below_alloc _ _) hb2))
  all_goals go_ret
  all_goals refine ⟨ret_bool ?_, by first | exact hb2 | exact below_alloc _ _⟩
  all_goals unfold epB
  all_goals rw [HK.out]
  all_goals simp [bareB, *] <;> (intros; omega)

set_option maxRecDepth 100000 in
set_option maxHeartbeats 4000000 in
theorem ex38_calls (L : Nat) (n : Nat) (nd : Nat → ND) (a : Option Addr) (cap : Nat) (nas : Nat → NA) (m : Nat) (w : World) (hS : StAt L w n nd a nas m) (hk : (nd m).k = 38) :
    Calls Tryz.prog 82 #[.slice a n cap, .int .i64 m] w fun e w' => e = .returned (.bool (epB nd m)) ∧ Below w.heap.size w w' := by
  have HS : Hid (StAt L w n nd a nas m) := hS
  have hm := hS.lt
  clear hS
  obtain ⟨b, off, rfl, _, hb, d0, d1, d2, d3, d4, d5, d6, d7⟩ := cells8 HS.out.at'.1 hm
  have hkn := HS.out.sm.kn
  have hsz := HS.out.sm.s
  have q20 : ((nd m).k == 20) = false := by rw [hk]; rfl
  have q21 : ((nd m).k == 21) = false := by rw [hk]; rfl
  have q22 : ((nd m).k == 22) = false := by rw [hk]; rfl
  have q37 : ((nd m).k == 37) = false := by rw [hk]; rfl
  have q23 : ((nd m).k == 23) = false := by rw [hk]; rfl
  have q24 : ((nd m).k == 24) = false := by rw [hk]; rfl
  have q25 : ((nd m).k == 25) = false := by rw [hk]; rfl
  have q26 : ((nd m).k == 26) = false := by rw [hk]; rfl
  have q27 : ((nd m).k == 27) = false := by rw [hk]; rfl
  have q36 : ((nd m).k == 36) = false := by rw [hk]; rfl
  have q28 : ((nd m).k == 28) = false := by rw [hk]; rfl
  have q29 : ((nd m).k == 29) = false := by rw [hk]; rfl
  have q30 : ((nd m).k == 30) = false := by rw [hk]; rfl
  have q33 : ((nd m).k == 33) = false := by rw [hk]; rfl
  have q31 : ((nd m).k == 31) = false := by rw [hk]; rfl
  have q32 : ((nd m).k == 32) = false := by rw [hk]; rfl
  have q34 : ((nd m).k == 34) = false := by rw [hk]; rfl
  have q35 : ((nd m).k == 35) = false := by rw [hk]; rfl
  have q38 : ((nd m).k == 38) = true := by rw [hk]; rfl
  have HK : Hid ((nd m).k = 38) := hk
  clear hk
  go_enter Tryz.func82, Tryz.ntmps82
  go_wp2_with (first | (go_at_call 137; refine (l3kidI L n nd _ cap nas m _ (by omega) _ hm (HS.out.at'.alloc _)).mono ?_; rintro e w1 ⟨rfl, rfl⟩) | (go_at_call 139; refine (l3exprsI L n nd _ cap nas m _ _ _ hm (by omega) (by omega) (by omega) (by first | exact HS.out.at'.alloc _ | exact HS.out.at'.below hb2)).mono ?_; rintro e w1 ⟨rfl, rfl⟩) | (go_at_call 141; refine (l3many_calls _ _).mono ?_; rintro e w1 ⟨rfl, rfl⟩) | (go_at_call 138; refine (l3bare_calls _ _ _ _ _ _ _ _ _ _ _ _ _ _ _ _).mono ?_; rintro e w2 ⟨rfl, hb2⟩; replace hb2 := below_call (below_alloc _ _) hb2))
  all_goals go_ret
  all_goals refine ⟨ret_bool ?_, by first | exact hb2 | exact below_alloc _ _⟩
  all_goals unfold epB
  all_goals rw [HK.out]
  all_goals simp [bareB, *]

end Go.Proofs.YtcpjnddkibbddaaGreat
