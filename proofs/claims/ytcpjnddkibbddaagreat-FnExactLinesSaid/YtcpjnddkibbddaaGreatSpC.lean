import Derived.Test.YtcpjnddkibbddaaGreatFa
/-! The specification's check of a unit: a statement's form. -/
namespace Go.Proofs.YtcpjnddkibbddaaGreat
open Go.RowKit
attribute [local go_sem] run_store_float
attribute [local go_sem ↓] Go.wp_at_zero Go.wp_at_succ

/-- the last kid is a block -/
def blkB (nd : Nat → ND) (m : Nat) : Bool := decide (0 < (nd m).kn) && kidK nd m ((nd m).kn - 1) == 1
/-- the form of a statement, as the specification asks it -/
def stB (nd : Nat → ND) (m : Nat) : Bool :=
  if (nd m).k = 1 then allB (fun i => stK (kidK nd m i)) 0 (nd m).kn && bareB (nd m) false false false false 0
  else if (nd m).k = 2 then decide (0 < (nd m).rn) && bareB (nd m) false false false false (nd m).rn && exsB nd m 0 (nd m).kn
  else if (nd m).k = 3 then !(decide ((nd m).n < 1) || decide (((nd m).kn : Int) ≤ (nd m).n)) && allB (fun i => tgK (kidK nd m i)) 0 (nd m).n.toNat && bareB (nd m) false true false false 0 && exsB nd m (nd m).n.toNat (nd m).kn
  else if (nd m).k = 4 ∨ (nd m).k = 14 then ((nd m).kn : Int) == 1 && kidK nd m 0 == 34 && bareB (nd m) false false false false 0
  else if (nd m).k = 5 then (((nd m).kn : Int) == 2 || ((nd m).kn : Int) == 3 && (kidK nd m 2 == 1 || kidK nd m 2 == 5)) && exsB nd m 0 1 && kidK nd m 1 == 1 && bareB (nd m) false false false false 0
  else if (nd m).k = 6 then ((nd m).kn : Int) == 2 && exsB nd m 0 1 && blkB nd m && bareB (nd m) false false false false 0
  else if (nd m).k = 7 then ((nd m).kn : Int) == 4 && exsB nd m 0 3 && blkB nd m && bareB (nd m) false false false false 1
  else if (nd m).k = 8 then ((nd m).kn : Int) == 2 && decide ((1 : Int) ≤ (nd m).rn) && decide (((nd m).rn : Int) ≤ 4) && exsB nd m 0 1 && blkB nd m && bareB (nd m) false false false false (nd m).rn
  else if (nd m).k = 9 ∨ (nd m).k = 10 then ((nd m).kn : Int) == 0 && bareB (nd m) false false false false 0
  else if (nd m).k = 11 then exsB nd m 0 (nd m).kn && bareB (nd m) false false false false 0
  else if (nd m).k = 12 then ((nd m).kn : Int) == 2 && kidK nd m 0 == 1 && blkB nd m && bareB (nd m) false false false false 2
  else if (nd m).k = 13 then ((nd m).kn : Int) == 1 && exsB nd m 0 1 && bareB (nd m) false false false false 0
  else false

/-- what the walks of one statement share -/
structure StAt (L : Nat) (w : World) (n : Nat) (nd : Nat → ND) (a : Option Addr) (nas : Nat → NA) (m : Nat) : Prop where
  at' : NodesAt L w n nd a nas
  lt : m < n
  sm : (nd m).sm

end Go.Proofs.YtcpjnddkibbddaaGreat

/-! The specification's check of a unit: statements. -/
namespace Go.Proofs.YtcpjnddkibbddaaGreat
open Go.RowKit
attribute [local go_sem] run_store_float
attribute [local go_sem ↓] Go.wp_at_zero Go.wp_at_succ

set_option maxRecDepth 100000 in
set_option maxHeartbeats 2000000 in
theorem st4_calls (L : Nat) (n : Nat) (nd : Nat → ND) (a : Option Addr) (cap : Nat) (nas : Nat → NA) (m : Nat) (w : World) (hS : StAt L w n nd a nas m) (hk : (nd m).k = 4) :
    Calls Tryz.prog 81 #[.slice a n cap, .int .i64 m] w fun e w' => e = .returned (.bool (stB nd m)) ∧ Below w.heap.size w w' := by
  have HS : Hid (StAt L w n nd a nas m) := hS
  have hm := hS.lt
  clear hS
  obtain ⟨b, off, rfl, _, hb, d0, d1, d2, d3, d4, d5, d6, d7⟩ := cells8 HS.out.at'.1 hm
  have hkn := HS.out.sm.kn
  have q1 : ((nd m).k == 1) = false := by rw [hk]; rfl
  have q2 : ((nd m).k == 2) = false := by rw [hk]; rfl
  have q3 : ((nd m).k == 3) = false := by rw [hk]; rfl
  have q4 : ((nd m).k == 4) = true := by rw [hk]; rfl
  have HK : Hid ((nd m).k = 4) := hk
  clear hk
  go_enter Tryz.func81, Tryz.ntmps81
  go_wp2_with (first | (go_at_call 137; refine (l3kidI L n nd _ cap nas m _ (by omega) _ hm (HS.out.at'.alloc _)).mono ?_; rintro e w1 ⟨rfl, rfl⟩) | (go_at_call 139; refine (l3exprsI L n nd _ cap nas m _ _ _ hm (by omega) (by omega) (by omega) (by first | exact HS.out.at'.alloc _ | exact HS.out.at'.below hb2)).mono ?_; rintro e w1 ⟨rfl, rfl⟩) | (go_at_call 138; refine (l3bare_calls _ _ _ _ _ _ _ _ _ _ _ _ _ _ _ _).mono ?_; rintro e w2 ⟨rfl, hb2⟩; replace hb2 := below_call (below_alloc _ _) hb2))
  all_goals go_ret
  all_goals refine ⟨ret_bool ?_, by first | exact hb2 | exact below_alloc _ _⟩
  all_goals unfold stB
  all_goals rw [HK.out]
  all_goals simp [bareB, *]

set_option maxRecDepth 100000 in
set_option maxHeartbeats 2000000 in
theorem st14_calls (L : Nat) (n : Nat) (nd : Nat → ND) (a : Option Addr) (cap : Nat) (nas : Nat → NA) (m : Nat) (w : World) (hS : StAt L w n nd a nas m) (hk : (nd m).k = 14) :
    Calls Tryz.prog 81 #[.slice a n cap, .int .i64 m] w fun e w' => e = .returned (.bool (stB nd m)) ∧ Below w.heap.size w w' := by
  have HS : Hid (StAt L w n nd a nas m) := hS
  have hm := hS.lt
  clear hS
  obtain ⟨b, off, rfl, _, hb, d0, d1, d2, d3, d4, d5, d6, d7⟩ := cells8 HS.out.at'.1 hm
  have hkn := HS.out.sm.kn
  have q1 : ((nd m).k == 1) = false := by rw [hk]; rfl
  have q2 : ((nd m).k == 2) = false := by rw [hk]; rfl
  have q3 : ((nd m).k == 3) = false := by rw [hk]; rfl
  have q4 : ((nd m).k == 4) = false := by rw [hk]; rfl
  have q14 : ((nd m).k == 14) = true := by rw [hk]; rfl
  have HK : Hid ((nd m).k = 14) := hk
  clear hk
  go_enter Tryz.func81, Tryz.ntmps81
  go_wp2_with (first | (go_at_call 137; refine (l3kidI L n nd _ cap nas m _ (by omega) _ hm (HS.out.at'.alloc _)).mono ?_; rintro e w1 ⟨rfl, rfl⟩) | (go_at_call 139; refine (l3exprsI L n nd _ cap nas m _ _ _ hm (by omega) (by omega) (by omega) (by first | exact HS.out.at'.alloc _ | exact HS.out.at'.below hb2)).mono ?_; rintro e w1 ⟨rfl, rfl⟩) | (go_at_call 138; refine (l3bare_calls _ _ _ _ _ _ _ _ _ _ _ _ _ _ _ _).mono ?_; rintro e w2 ⟨rfl, hb2⟩; replace hb2 := below_call (below_alloc _ _) hb2))
  all_goals go_ret
  all_goals refine ⟨ret_bool ?_, by first | exact hb2 | exact below_alloc _ _⟩
  all_goals unfold stB
  all_goals rw [HK.out]
  all_goals simp [bareB, *]

set_option maxRecDepth 100000 in
set_option maxHeartbeats 2000000 in
theorem st5_calls (L : Nat) (n : Nat) (nd : Nat → ND) (a : Option Addr) (cap : Nat) (nas : Nat → NA) (m : Nat) (w : World) (hS : StAt L w n nd a nas m) (hk : (nd m).k = 5) :
    Calls Tryz.prog 81 #[.slice a n cap, .int .i64 m] w fun e w' => e = .returned (.bool (stB nd m)) ∧ Below w.heap.size w w' := by
  have HS : Hid (StAt L w n nd a nas m) := hS
  have hm := hS.lt
  clear hS
  obtain ⟨b, off, rfl, _, hb, d0, d1, d2, d3, d4, d5, d6, d7⟩ := cells8 HS.out.at'.1 hm
  have hkn := HS.out.sm.kn
  have q1 : ((nd m).k == 1) = false := by rw [hk]; rfl
  have q2 : ((nd m).k == 2) = false := by rw [hk]; rfl
  have q3 : ((nd m).k == 3) = false := by rw [hk]; rfl
  have q4 : ((nd m).k == 4) = false := by rw [hk]; rfl
  have q14 : ((nd m).k == 14) = false := by rw [hk]; rfl
  have q5 : ((nd m).k == 5) = true := by rw [hk]; rfl
  have HK : Hid ((nd m).k = 5) := hk
  clear hk
  go_enter Tryz.func81, Tryz.ntmps81
  go_wp2_with (first | (go_at_call 137; refine (l3kidI L n nd _ cap nas m _ (by omega) _ hm (HS.out.at'.alloc _)).mono ?_; rintro e w1 ⟨rfl, rfl⟩) | (go_at_call 139; refine (l3exprsI L n nd _ cap nas m _ _ _ hm (by omega) (by omega) (by omega) (by first | exact HS.out.at'.alloc _ | exact HS.out.at'.below hb2)).mono ?_; rintro e w1 ⟨rfl, rfl⟩) | (go_at_call 138; refine (l3bare_calls _ _ _ _ _ _ _ _ _ _ _ _ _ _ _ _).mono ?_; rintro e w2 ⟨rfl, hb2⟩; replace hb2 := below_call (below_alloc _ _) hb2))
  all_goals go_ret
  all_goals refine ⟨ret_bool ?_, by first | exact hb2 | exact below_alloc _ _⟩
  all_goals unfold stB
  all_goals rw [HK.out]
  all_goals simp [bareB, *]

set_option maxRecDepth 100000 in
set_option maxHeartbeats 2000000 in
theorem st6_calls (L : Nat) (n : Nat) (nd : Nat → ND) (a : Option Addr) (cap : Nat) (nas : Nat → NA) (m : Nat) (w : World) (hS : StAt L w n nd a nas m) (hk : (nd m).k = 6) :
    Calls Tryz.prog 81 #[.slice a n cap, .int .i64 m] w fun e w' => e = .returned (.bool (stB nd m)) ∧ Below w.heap.size w w' := by
  have HS : Hid (StAt L w n nd a nas m) := hS
  have hm := hS.lt
  clear hS
  obtain ⟨b, off, rfl, _, hb, d0, d1, d2, d3, d4, d5, d6, d7⟩ := cells8 HS.out.at'.1 hm
  have hkn := HS.out.sm.kn
  have q1 : ((nd m).k == 1) = false := by rw [hk]; rfl
  have q2 : ((nd m).k == 2) = false := by rw [hk]; rfl
  have q3 : ((nd m).k == 3) = false := by rw [hk]; rfl
  have q4 : ((nd m).k == 4) = false := by rw [hk]; rfl
  have q14 : ((nd m).k == 14) = false := by rw [hk]; rfl
  have q5 : ((nd m).k == 5) = false := by rw [hk]; rfl
  have q6 : ((nd m).k == 6) = true := by rw [hk]; rfl
  have HK : Hid ((nd m).k = 6) := hk
  clear hk
  go_enter Tryz.func81, Tryz.ntmps81
  go_wp2_with (first | (go_at_call 137; refine (l3kidI L n nd _ cap nas m _ (by omega) _ hm (HS.out.at'.alloc _)).mono ?_; rintro e w1 ⟨rfl, rfl⟩) | (go_at_call 139; refine (l3exprsI L n nd _ cap nas m _ _ _ hm (by omega) (by omega) (by omega) (by first | exact HS.out.at'.alloc _ | exact HS.out.at'.below hb2)).mono ?_; rintro e w1 ⟨rfl, rfl⟩) | (go_at_call 138; refine (l3bare_calls _ _ _ _ _ _ _ _ _ _ _ _ _ _ _ _).mono ?_; rintro e w2 ⟨rfl, hb2⟩; replace hb2 := below_call (below_alloc _ _) hb2))
  all_goals go_ret
  all_goals refine ⟨ret_bool ?_, by first | exact hb2 | exact below_alloc _ _⟩
  all_goals unfold stB
  all_goals rw [HK.out]
  all_goals simp [bareB, blkB, *]

end Go.Proofs.YtcpjnddkibbddaaGreat

/-! The specification's check of a unit: statements. -/
namespace Go.Proofs.YtcpjnddkibbddaaGreat
open Go.RowKit
attribute [local go_sem] run_store_float
attribute [local go_sem ↓] Go.wp_at_zero Go.wp_at_succ

set_option maxRecDepth 100000 in
set_option maxHeartbeats 2000000 in
theorem st7_calls (L : Nat) (n : Nat) (nd : Nat → ND) (a : Option Addr) (cap : Nat) (nas : Nat → NA) (m : Nat) (w : World) (hS : StAt L w n nd a nas m) (hk : (nd m).k = 7) :
    Calls Tryz.prog 81 #[.slice a n cap, .int .i64 m] w fun e w' => e = .returned (.bool (stB nd m)) ∧ Below w.heap.size w w' := by
  have HS : Hid (StAt L w n nd a nas m) := hS
  have hm := hS.lt
  clear hS
  obtain ⟨b, off, rfl, _, hb, d0, d1, d2, d3, d4, d5, d6, d7⟩ := cells8 HS.out.at'.1 hm
  have hkn := HS.out.sm.kn
  have q1 : ((nd m).k == 1) = false := by rw [hk]; rfl
  have q2 : ((nd m).k == 2) = false := by rw [hk]; rfl
  have q3 : ((nd m).k == 3) = false := by rw [hk]; rfl
  have q4 : ((nd m).k == 4) = false := by rw [hk]; rfl
  have q14 : ((nd m).k == 14) = false := by rw [hk]; rfl
  have q5 : ((nd m).k == 5) = false := by rw [hk]; rfl
  have q6 : ((nd m).k == 6) = false := by rw [hk]; rfl
  have q7 : ((nd m).k == 7) = true := by rw [hk]; rfl
  have HK : Hid ((nd m).k = 7) := hk
  clear hk
  go_enter Tryz.func81, Tryz.ntmps81
  go_wp2_with (first | (go_at_call 137; refine (l3kidI L n nd _ cap nas m _ (by omega) _ hm (HS.out.at'.alloc _)).mono ?_; rintro e w1 ⟨rfl, rfl⟩) | (go_at_call 139; refine (l3exprsI L n nd _ cap nas m _ _ _ hm (by omega) (by omega) (by omega) (by first | exact HS.out.at'.alloc _ | exact HS.out.at'.below hb2)).mono ?_; rintro e w1 ⟨rfl, rfl⟩) | (go_at_call 138; refine (l3bare_calls _ _ _ _ _ _ _ _ _ _ _ _ _ _ _ _).mono ?_; rintro e w2 ⟨rfl, hb2⟩; replace hb2 := below_call (below_alloc _ _) hb2))
  all_goals go_ret
  all_goals refine ⟨ret_bool ?_, by first | exact hb2 | exact below_alloc _ _⟩
  all_goals unfold stB
  all_goals rw [HK.out]
  all_goals simp [bareB, blkB, *]

set_option maxRecDepth 100000 in
set_option maxHeartbeats 2000000 in
theorem st8_calls (L : Nat) (n : Nat) (nd : Nat → ND) (a : Option Addr) (cap : Nat) (nas : Nat → NA) (m : Nat) (w : World) (hS : StAt L w n nd a nas m) (hk : (nd m).k = 8) :
    Calls Tryz.prog 81 #[.slice a n cap, .int .i64 m] w fun e w' => e = .returned (.bool (stB nd m)) ∧ Below w.heap.size w w' := by
  have HS : Hid (StAt L w n nd a nas m) := hS
  have hm := hS.lt
  clear hS
  obtain ⟨b, off, rfl, _, hb, d0, d1, d2, d3, d4, d5, d6, d7⟩ := cells8 HS.out.at'.1 hm
  have hkn := HS.out.sm.kn
  have q1 : ((nd m).k == 1) = false := by rw [hk]; rfl
  have q2 : ((nd m).k == 2) = false := by rw [hk]; rfl
  have q3 : ((nd m).k == 3) = false := by rw [hk]; rfl
  have q4 : ((nd m).k == 4) = false := by rw [hk]; rfl
  have q14 : ((nd m).k == 14) = false := by rw [hk]; rfl
  have q5 : ((nd m).k == 5) = false := by rw [hk]; rfl
  have q6 : ((nd m).k == 6) = false := by rw [hk]; rfl
  have q7 : ((nd m).k == 7) = false := by rw [hk]; rfl
  have q8 : ((nd m).k == 8) = true := by rw [hk]; rfl
  have HK : Hid ((nd m).k = 8) := hk
  clear hk
  go_enter Tryz.func81, Tryz.ntmps81
  go_wp2_with (first | (go_at_call 137; refine (l3kidI L n nd _ cap nas m _ (by omega) _ hm (HS.out.at'.alloc _)).mono ?_; rintro e w1 ⟨rfl, rfl⟩) | (go_at_call 139; refine (l3exprsI L n nd _ cap nas m _ _ _ hm (by omega) (by omega) (by omega) (by first | exact HS.out.at'.alloc _ | exact HS.out.at'.below hb2)).mono ?_; rintro e w1 ⟨rfl, rfl⟩) | (go_at_call 138; refine (l3bare_calls _ _ _ _ _ _ _ _ _ _ _ _ _ _ _ _).mono ?_; rintro e w2 ⟨rfl, hb2⟩; replace hb2 := below_call (below_alloc _ _) hb2))
  all_goals go_ret
  all_goals refine ⟨ret_bool ?_, by first | exact hb2 | exact below_alloc _ _⟩
  all_goals unfold stB
  all_goals rw [HK.out]
  all_goals simp [bareB, blkB, *] <;> (intros; omega)

set_option maxRecDepth 100000 in
set_option maxHeartbeats 2000000 in
theorem st9_calls (L : Nat) (n : Nat) (nd : Nat → ND) (a : Option Addr) (cap : Nat) (nas : Nat → NA) (m : Nat) (w : World) (hS : StAt L w n nd a nas m) (hk : (nd m).k = 9) :
    Calls Tryz.prog 81 #[.slice a n cap, .int .i64 m] w fun e w' => e = .returned (.bool (stB nd m)) ∧ Below w.heap.size w w' := by
  have HS : Hid (StAt L w n nd a nas m) := hS
  have hm := hS.lt
  clear hS
  obtain ⟨b, off, rfl, _, hb, d0, d1, d2, d3, d4, d5, d6, d7⟩ := cells8 HS.out.at'.1 hm
  have hkn := HS.out.sm.kn
  have q1 : ((nd m).k == 1) = false := by rw [hk]; rfl
  have q2 : ((nd m).k == 2) = false := by rw [hk]; rfl
  have q3 : ((nd m).k == 3) = false := by rw [hk]; rfl
  have q4 : ((nd m).k == 4) = false := by rw [hk]; rfl
  have q14 : ((nd m).k == 14) = false := by rw [hk]; rfl
  have q5 : ((nd m).k == 5) = false := by rw [hk]; rfl
  have q6 : ((nd m).k == 6) = false := by rw [hk]; rfl
  have q7 : ((nd m).k == 7) = false := by rw [hk]; rfl
  have q8 : ((nd m).k == 8) = false := by rw [hk]; rfl
  have q9 : ((nd m).k == 9) = true := by rw [hk]; rfl
  have HK : Hid ((nd m).k = 9) := hk
  clear hk
  go_enter Tryz.func81, Tryz.ntmps81
  go_wp2_with (first | (go_at_call 137; refine (l3kidI L n nd _ cap nas m _ (by omega) _ hm (HS.out.at'.alloc _)).mono ?_; rintro e w1 ⟨rfl, rfl⟩) | (go_at_call 139; refine (l3exprsI L n nd _ cap nas m _ _ _ hm (by omega) (by omega) (by omega) (by first | exact HS.out.at'.alloc _ | exact HS.out.at'.below hb2)).mono ?_; rintro e w1 ⟨rfl, rfl⟩) | (go_at_call 138; refine (l3bare_calls _ _ _ _ _ _ _ _ _ _ _ _ _ _ _ _).mono ?_; rintro e w2 ⟨rfl, hb2⟩; replace hb2 := below_call (below_alloc _ _) hb2))
  all_goals go_ret
  all_goals refine ⟨ret_bool ?_, by first | exact hb2 | exact below_alloc _ _⟩
  all_goals unfold stB
  all_goals rw [HK.out]
  all_goals simp [bareB, *]

set_option maxRecDepth 100000 in
set_option maxHeartbeats 2000000 in
theorem st10_calls (L : Nat) (n : Nat) (nd : Nat → ND) (a : Option Addr) (cap : Nat) (nas : Nat → NA) (m : Nat) (w : World) (hS : StAt L w n nd a nas m) (hk : (nd m).k = 10) :
    Calls Tryz.prog 81 #[.slice a n cap, .int .i64 m] w fun e w' => e = .returned (.bool (stB nd m)) ∧ Below w.heap.size w w' := by
  have HS : Hid (StAt L w n nd a nas m) := hS
  have hm := hS.lt
  clear hS
  obtain ⟨b, off, rfl, _, hb, d0, d1, d2, d3, d4, d5, d6, d7⟩ := cells8 HS.out.at'.1 hm
  have hkn := HS.out.sm.kn
  have q1 : ((nd m).k == 1) = false := by rw [hk]; rfl
  have q2 : ((nd m).k == 2) = false := by rw [hk]; rfl
  have q3 : ((nd m).k == 3) = false := by rw [hk]; rfl
  have q4 : ((nd m).k == 4) = false := by rw [hk]; rfl
  have q14 : ((nd m).k == 14) = false := by rw [hk]; rfl
  have q5 : ((nd m).k == 5) = false := by rw [hk]; rfl
  have q6 : ((nd m).k == 6) = false := by rw [hk]; rfl
  have q7 : ((nd m).k == 7) = false := by rw [hk]; rfl
  have q8 : ((nd m).k == 8) = false := by rw [hk]; rfl
  have q9 : ((nd m).k == 9) = false := by rw [hk]; rfl
  have q10 : ((nd m).k == 10) = true := by rw [hk]; rfl
  have HK : Hid ((nd m).k = 10) := hk
  clear hk
  go_enter Tryz.func81, Tryz.ntmps81
  go_wp2_with (first | (go_at_call 137; refine (l3kidI L n nd _ cap nas m _ (by omega) _ hm (HS.out.at'.alloc _)).mono ?_; rintro e w1 ⟨rfl, rfl⟩) | (go_at_call 139; refine (l3exprsI L n nd _ cap nas m _ _ _ hm (by omega) (by omega) (by omega) (by first | exact HS.out.at'.alloc _ | exact HS.out.at'.below hb2)).mono ?_; rintro e w1 ⟨rfl, rfl⟩) | (go_at_call 138; refine (l3bare_calls _ _ _ _ _ _ _ _ _ _ _ _ _ _ _ _).mono ?_; rintro e w2 ⟨rfl, hb2⟩; replace hb2 := below_call (below_alloc _ _) hb2))
  all_goals go_ret
  all_goals refine ⟨ret_bool ?_, by first | exact hb2 | exact below_alloc _ _⟩
  all_goals unfold stB
  all_goals rw [HK.out]
  all_goals simp [bareB, *]

end Go.Proofs.YtcpjnddkibbddaaGreat

/-! The specification's check of a unit: statements. -/
namespace Go.Proofs.YtcpjnddkibbddaaGreat
open Go.RowKit
attribute [local go_sem] run_store_float
attribute [local go_sem ↓] Go.wp_at_zero Go.wp_at_succ

set_option maxRecDepth 100000 in
set_option maxHeartbeats 2000000 in
theorem st11_calls (L : Nat) (n : Nat) (nd : Nat → ND) (a : Option Addr) (cap : Nat) (nas : Nat → NA) (m : Nat) (w : World) (hS : StAt L w n nd a nas m) (hk : (nd m).k = 11) :
    Calls Tryz.prog 81 #[.slice a n cap, .int .i64 m] w fun e w' => e = .returned (.bool (stB nd m)) ∧ Below w.heap.size w w' := by
  have HS : Hid (StAt L w n nd a nas m) := hS
  have hm := hS.lt
  clear hS
  obtain ⟨b, off, rfl, _, hb, d0, d1, d2, d3, d4, d5, d6, d7⟩ := cells8 HS.out.at'.1 hm
  have hkn := HS.out.sm.kn
  have q1 : ((nd m).k == 1) = false := by rw [hk]; rfl
  have q2 : ((nd m).k == 2) = false := by rw [hk]; rfl
  have q3 : ((nd m).k == 3) = false := by rw [hk]; rfl
  have q4 : ((nd m).k == 4) = false := by rw [hk]; rfl
  have q14 : ((nd m).k == 14) = false := by rw [hk]; rfl
  have q5 : ((nd m).k == 5) = false := by rw [hk]; rfl
  have q6 : ((nd m).k == 6) = false := by rw [hk]; rfl
  have q7 : ((nd m).k == 7) = false := by rw [hk]; rfl
  have q8 : ((nd m).k == 8) = false := by rw [hk]; rfl
  have q9 : ((nd m).k == 9) = false := by rw [hk]; rfl
  have q10 : ((nd m).k == 10) = false := by rw [hk]; rfl
  have q11 : ((nd m).k == 11) = true := by rw [hk]; rfl
  have HK : Hid ((nd m).k = 11) := hk
  clear hk
  go_enter Tryz.func81, Tryz.ntmps81
  go_wp2_with (first | (go_at_call 137; refine (l3kidI L n nd _ cap nas m _ (by omega) _ hm (HS.out.at'.alloc _)).mono ?_; rintro e w1 ⟨rfl, rfl⟩) | (go_at_call 139; refine (l3exprsI L n nd _ cap nas m _ _ _ hm (by omega) (by omega) (by omega) (by first | exact HS.out.at'.alloc _ | exact HS.out.at'.below hb2)).mono ?_; rintro e w1 ⟨rfl, rfl⟩) | (go_at_call 138; refine (l3bare_calls _ _ _ _ _ _ _ _ _ _ _ _ _ _ _ _).mono ?_; rintro e w2 ⟨rfl, hb2⟩; replace hb2 := below_call (below_alloc _ _) hb2))
  all_goals go_ret
  all_goals refine ⟨ret_bool ?_, by first | exact hb2 | exact below_alloc _ _⟩
  all_goals unfold stB
  all_goals rw [HK.out]
  all_goals simp [bareB, *]

set_option maxRecDepth 100000 in
set_option maxHeartbeats 2000000 in
theorem st12_calls (L : Nat) (n : Nat) (nd : Nat → ND) (a : Option Addr) (cap : Nat) (nas : Nat → NA) (m : Nat) (w : World) (hS : StAt L w n nd a nas m) (hk : (nd m).k = 12) :
    Calls Tryz.prog 81 #[.slice a n cap, .int .i64 m] w fun e w' => e = .returned (.bool (stB nd m)) ∧ Below w.heap.size w w' := by
  have HS : Hid (StAt L w n nd a nas m) := hS
  have hm := hS.lt
  clear hS
  obtain ⟨b, off, rfl, _, hb, d0, d1, d2, d3, d4, d5, d6, d7⟩ := cells8 HS.out.at'.1 hm
  have hkn := HS.out.sm.kn
  have q1 : ((nd m).k == 1) = false := by rw [hk]; rfl
  have q2 : ((nd m).k == 2) = false := by rw [hk]; rfl
  have q3 : ((nd m).k == 3) = false := by rw [hk]; rfl
  have q4 : ((nd m).k == 4) = false := by rw [hk]; rfl
  have q14 : ((nd m).k == 14) = false := by rw [hk]; rfl
  have q5 : ((nd m).k == 5) = false := by rw [hk]; rfl
  have q6 : ((nd m).k == 6) = false := by rw [hk]; rfl
  have q7 : ((nd m).k == 7) = false := by rw [hk]; rfl
  have q8 : ((nd m).k == 8) = false := by rw [hk]; rfl
  have q9 : ((nd m).k == 9) = false := by rw [hk]; rfl
  have q10 : ((nd m).k == 10) = false := by rw [hk]; rfl
  have q11 : ((nd m).k == 11) = false := by rw [hk]; rfl
  have q12 : ((nd m).k == 12) = true := by rw [hk]; rfl
  have HK : Hid ((nd m).k = 12) := hk
  clear hk
  go_enter Tryz.func81, Tryz.ntmps81
  go_wp2_with (first | (go_at_call 137; refine (l3kidI L n nd _ cap nas m _ (by omega) _ hm (HS.out.at'.alloc _)).mono ?_; rintro e w1 ⟨rfl, rfl⟩) | (go_at_call 139; refine (l3exprsI L n nd _ cap nas m _ _ _ hm (by omega) (by omega) (by omega) (by first | exact HS.out.at'.alloc _ | exact HS.out.at'.below hb2)).mono ?_; rintro e w1 ⟨rfl, rfl⟩) | (go_at_call 138; refine (l3bare_calls _ _ _ _ _ _ _ _ _ _ _ _ _ _ _ _).mono ?_; rintro e w2 ⟨rfl, hb2⟩; replace hb2 := below_call (below_alloc _ _) hb2))
  all_goals go_ret
  all_goals refine ⟨ret_bool ?_, by first | exact hb2 | exact below_alloc _ _⟩
  all_goals unfold stB
  all_goals rw [HK.out]
  all_goals simp [bareB, blkB, *]

set_option maxRecDepth 100000 in
set_option maxHeartbeats 2000000 in
theorem st13_calls (L : Nat) (n : Nat) (nd : Nat → ND) (a : Option Addr) (cap : Nat) (nas : Nat → NA) (m : Nat) (w : World) (hS : StAt L w n nd a nas m) (hk : (nd m).k = 13) :
    Calls Tryz.prog 81 #[.slice a n cap, .int .i64 m] w fun e w' => e = .returned (.bool (stB nd m)) ∧ Below w.heap.size w w' := by
  have HS : Hid (StAt L w n nd a nas m) := hS
  have hm := hS.lt
  clear hS
  obtain ⟨b, off, rfl, _, hb, d0, d1, d2, d3, d4, d5, d6, d7⟩ := cells8 HS.out.at'.1 hm
  have hkn := HS.out.sm.kn
  have q1 : ((nd m).k == 1) = false := by rw [hk]; rfl
  have q2 : ((nd m).k == 2) = false := by rw [hk]; rfl
  have q3 : ((nd m).k == 3) = false := by rw [hk]; rfl
  have q4 : ((nd m).k == 4) = false := by rw [hk]; rfl
  have q14 : ((nd m).k == 14) = false := by rw [hk]; rfl
  have q5 : ((nd m).k == 5) = false := by rw [hk]; rfl
  have q6 : ((nd m).k == 6) = false := by rw [hk]; rfl
  have q7 : ((nd m).k == 7) = false := by rw [hk]; rfl
  have q8 : ((nd m).k == 8) = false := by rw [hk]; rfl
  have q9 : ((nd m).k == 9) = false := by rw [hk]; rfl
  have q10 : ((nd m).k == 10) = false := by rw [hk]; rfl
  have q11 : ((nd m).k == 11) = false := by rw [hk]; rfl
  have q12 : ((nd m).k == 12) = false := by rw [hk]; rfl
  have q13 : ((nd m).k == 13) = true := by rw [hk]; rfl
  have HK : Hid ((nd m).k = 13) := hk
  clear hk
  go_enter Tryz.func81, Tryz.ntmps81
  go_wp2_with (first | (go_at_call 137; refine (l3kidI L n nd _ cap nas m _ (by omega) _ hm (HS.out.at'.alloc _)).mono ?_; rintro e w1 ⟨rfl, rfl⟩) | (go_at_call 139; refine (l3exprsI L n nd _ cap nas m _ _ _ hm (by omega) (by omega) (by omega) (by first | exact HS.out.at'.alloc _ | exact HS.out.at'.below hb2)).mono ?_; rintro e w1 ⟨rfl, rfl⟩) | (go_at_call 138; refine (l3bare_calls _ _ _ _ _ _ _ _ _ _ _ _ _ _ _ _).mono ?_; rintro e w2 ⟨rfl, hb2⟩; replace hb2 := below_call (below_alloc _ _) hb2))
  all_goals go_ret
  all_goals refine ⟨ret_bool ?_, by first | exact hb2 | exact below_alloc _ _⟩
  all_goals unfold stB
  all_goals rw [HK.out]
  all_goals simp [bareB, *]

set_option maxRecDepth 100000 in
set_option maxHeartbeats 2000000 in
theorem st2_calls (L : Nat) (n : Nat) (nd : Nat → ND) (a : Option Addr) (cap : Nat) (nas : Nat → NA) (m : Nat) (w : World) (hS : StAt L w n nd a nas m) (hk : (nd m).k = 2) :
    Calls Tryz.prog 81 #[.slice a n cap, .int .i64 m] w fun e w' => e = .returned (.bool (stB nd m)) ∧ Below w.heap.size w w' := by
  have HS : Hid (StAt L w n nd a nas m) := hS
  have hm := hS.lt
  clear hS
  obtain ⟨b, off, rfl, _, hb, d0, d1, d2, d3, d4, d5, d6, d7⟩ := cells8 HS.out.at'.1 hm
  have hkn := HS.out.sm.kn
  have q1 : ((nd m).k == 1) = false := by rw [hk]; rfl
  have q2 : ((nd m).k == 2) = true := by rw [hk]; rfl
  have HK : Hid ((nd m).k = 2) := hk
  clear hk
  go_enter Tryz.func81, Tryz.ntmps81
  go_wp2_with (first | (go_at_call 137; refine (l3kidI L n nd _ cap nas m _ (by omega) _ hm (HS.out.at'.alloc _)).mono ?_; rintro e w1 ⟨rfl, rfl⟩) | (go_at_call 139; refine (l3exprsI L n nd _ cap nas m _ _ _ hm (by omega) (by omega) (by omega) (by first | exact HS.out.at'.alloc _ | exact HS.out.at'.below hb2)).mono ?_; rintro e w1 ⟨rfl, rfl⟩) | (go_at_call 138; refine (l3bare_calls _ _ _ _ _ _ _ _ _ _ _ _ _ _ _ _).mono ?_; rintro e w2 ⟨rfl, hb2⟩; replace hb2 := below_call (below_alloc _ _) hb2))
  all_goals go_ret
  all_goals refine ⟨ret_bool ?_, by first | exact hb2 | exact below_alloc _ _⟩
  all_goals unfold stB
  all_goals rw [HK.out]
  all_goals simp [bareB, *]

end Go.Proofs.YtcpjnddkibbddaaGreat
