import Derived.Test.YtiidepafifodjabGreatSpG
import Derived.Test.YtiidepafifodjabGreatSpJ
/-! The specification's check of a unit: expressions. -/
namespace Go.Proofs.YtiidepafifodjabGreat
open Go.RowKit
attribute [local go_sem] run_store_float
attribute [local go_sem ↓] Go.wp_at_zero Go.wp_at_succ

set_option maxRecDepth 100000 in
set_option maxHeartbeats 4000000 in
theorem ex32_calls (L : Nat) (n : Nat) (nd : Nat → ND) (a : Option Addr) (cap : Nat) (nas : Nat → NA) (m : Nat) (w : World) (hS : StAt L w n nd a nas m) (hk : (nd m).k = 32) :
    Calls Tryz.prog 126 #[.slice a n cap, .int .i64 m] w fun e w' => e = .returned (.bool (epB nd m)) ∧ Below w.heap.size w w' := by
  have HS : Hid (StAt L w n nd a nas m) := hS
  have hm := hS.lt
  clear hS
  obtain ⟨b, off, rfl, _, hb, d0, d1, d2, d3, d4, d5, d6, d7⟩ := cells8 HS.out.at'.1 hm
  have hkn := HS.out.sm.kn
  have hsz := HS.out.sm.s
  have q20 : ((nd m).k == 20) = false := by rw [hk]; rfl
  have q21 : ((nd m).k == 21) = false := by rw [hk]; rfl
  have q22 : ((nd m).k == 22) = false := by rw [hk]; rfl
  have q37 : ((nd m).k == 37) = false := by rw [hk]; rfl
  have q23 : ((nd m).k == 23) = false := by rw [hk]; rfl
  have q24 : ((nd m).k == 24) = false := by rw [hk]; rfl
  have q25 : ((nd m).k == 25) = false := by rw [hk]; rfl
  have q26 : ((nd m).k == 26) = false := by rw [hk]; rfl
  have q27 : ((nd m).k == 27) = false := by rw [hk]; rfl
  have q36 : ((nd m).k == 36) = false := by rw [hk]; rfl
  have q28 : ((nd m).k == 28) = false := by rw [hk]; rfl
  have q29 : ((nd m).k == 29) = false := by rw [hk]; rfl
  have q30 : ((nd m).k == 30) = false := by rw [hk]; rfl
  have q33 : ((nd m).k == 33) = false := by rw [hk]; rfl
  have q31 : ((nd m).k == 31) = false := by rw [hk]; rfl
  have q32 : ((nd m).k == 32) = true := by rw [hk]; rfl
  have HK : Hid ((nd m).k = 32) := hk
  clear hk
  go_enter Tryz.func126, Tryz.ntmps126
  go_wp2_with (first | (go_at_call 200; refine (l3kidI L n nd _ cap nas m _ (by omega) _ hm (HS.out.at'.alloc _)).mono ?_; rintro e w1 ⟨rfl, rfl⟩) | (go_at_call 202; refine (l3exprsI L n nd _ cap nas m _ _ _ hm (by omega) (by omega) (by omega) (by first | exact HS.out.at'.alloc _ | exact HS.out.at'.below hb2)).mono ?_; rintro e w1 ⟨rfl, rfl⟩) | (go_at_call 204; refine (l3many_calls _ _).mono ?_; rintro e w1 ⟨rfl, rfl⟩) | (go_at_call 201; refine (l3bare_calls _ _ _ _ _ _ _ _ _ _ _ _ _ _ _ _).mono ?_; rintro e w2 ⟨rfl, hb2⟩; replace hb2 := below_call (below_alloc _ _) hb2))
  all_goals go_ret
  all_goals refine ⟨ret_bool ?_, by first | exact hb2 | exact below_alloc _ _⟩
  all_goals unfold epB
  all_goals rw [HK.out]
  all_goals simp [bareB, *] <;> (intros; omega)

set_option maxRecDepth 100000 in
set_option maxHeartbeats 4000000 in
theorem ex34_calls (L : Nat) (n : Nat) (nd : Nat → ND) (a : Option Addr) (cap : Nat) (nas : Nat → NA) (m : Nat) (w : World) (hS : StAt L w n nd a nas m) (hk : (nd m).k = 34) :
    Calls Tryz.prog 126 #[.slice a n cap, .int .i64 m] w fun e w' => e = .returned (.bool (epB nd m)) ∧ Below w.heap.size w w' := by
  have HS : Hid (StAt L w n nd a nas m) := hS
  have hm := hS.lt
  clear hS
  obtain ⟨b, off, rfl, _, hb, d0, d1, d2, d3, d4, d5, d6, d7⟩ := cells8 HS.out.at'.1 hm
  have hkn := HS.out.sm.kn
  have hsz := HS.out.sm.s
  have q20 : ((nd m).k == 20) = false := by rw [hk]; rfl
  have q21 : ((nd m).k == 21) = false := by rw [hk]; rfl
  have q22 : ((nd m).k == 22) = false := by rw [hk]; rfl
  have q37 : ((nd m).k == 37) = false := by rw [hk]; rfl
  have q23 : ((nd m).k == 23) = false := by rw [hk]; rfl
  have q24 : ((nd m).k == 24) = false := by rw [hk]; rfl
  have q25 : ((nd m).k == 25) = false := by rw [hk]; rfl
  have q26 : ((nd m).k == 26) = false := by rw [hk]; rfl
  have q27 : ((nd m).k == 27) = false := by rw [hk]; rfl
  have q36 : ((nd m).k == 36) = false := by rw [hk]; rfl
  have q28 : ((nd m).k == 28) = false := by rw [hk]; rfl
  have q29 : ((nd m).k == 29) = false := by rw [hk]; rfl
  have q30 : ((nd m).k == 30) = false := by rw [hk]; rfl
  have q33 : ((nd m).k == 33) = false := by rw [hk]; rfl
  have q31 : ((nd m).k == 31) = false := by rw [hk]; rfl
  have q32 : ((nd m).k == 32) = false := by rw [hk]; rfl
  have q34 : ((nd m).k == 34) = true := by rw [hk]; rfl
  have HK : Hid ((nd m).k = 34) := hk
  clear hk
  go_enter Tryz.func126, Tryz.ntmps126
  go_wp2_with (first | (go_at_call 200; refine (l3kidI L n nd _ cap nas m _ (by omega) _ hm (HS.out.at'.alloc _)).mono ?_; rintro e w1 ⟨rfl, rfl⟩) | (go_at_call 202; refine (l3exprsI L n nd _ cap nas m _ _ _ hm (by omega) (by omega) (by omega) (by first | exact HS.out.at'.alloc _ | exact HS.out.at'.below hb2)).mono ?_; rintro e w1 ⟨rfl, rfl⟩) | (go_at_call 204; refine (l3many_calls _ _).mono ?_; rintro e w1 ⟨rfl, rfl⟩) | (go_at_call 201; refine (l3bare_calls _ _ _ _ _ _ _ _ _ _ _ _ _ _ _ _).mono ?_; rintro e w2 ⟨rfl, hb2⟩; replace hb2 := below_call (below_alloc _ _) hb2))
  all_goals go_ret
  all_goals refine ⟨ret_bool ?_, by first | exact hb2 | exact below_alloc _ _⟩
  all_goals unfold epB
  all_goals rw [HK.out]
  all_goals simp [bareB, *] <;> (intros; omega)

set_option maxRecDepth 100000 in
set_option maxHeartbeats 4000000 in
theorem ex38_calls (L : Nat) (n : Nat) (nd : Nat → ND) (a : Option Addr) (cap : Nat) (nas : Nat → NA) (m : Nat) (w : World) (hS : StAt L w n nd a nas m) (hk : (nd m).k = 38) :
    Calls Tryz.prog 126 #[.slice a n cap, .int .i64 m] w fun e w' => e = .returned (.bool (epB nd m)) ∧ Below w.heap.size w w' := by
  have HS : Hid (StAt L w n nd a nas m) := hS
  have hm := hS.lt
  clear hS
  obtain ⟨b, off, rfl, _, hb, d0, d1, d2, d3, d4, d5, d6, d7⟩ := cells8 HS.out.at'.1 hm
  have hkn := HS.out.sm.kn
  have hsz := HS.out.sm.s
  have q20 : ((nd m).k == 20) = false := by rw [hk]; rfl
  have q21 : ((nd m).k == 21) = false := by rw [hk]; rfl
  have q22 : ((nd m).k == 22) = false := by rw [hk]; rfl
  have q37 : ((nd m).k == 37) = false := by rw [hk]; rfl
  have q23 : ((nd m).k == 23) = false := by rw [hk]; rfl
  have q24 : ((nd m).k == 24) = false := by rw [hk]; rfl
  have q25 : ((nd m).k == 25) = false := by rw [hk]; rfl
  have q26 : ((nd m).k == 26) = false := by rw [hk]; rfl
  have q27 : ((nd m).k == 27) = false := by rw [hk]; rfl
  have q36 : ((nd m).k == 36) = false := by rw [hk]; rfl
  have q28 : ((nd m).k == 28) = false := by rw [hk]; rfl
  have q29 : ((nd m).k == 29) = false := by rw [hk]; rfl
  have q30 : ((nd m).k == 30) = false := by rw [hk]; rfl
  have q33 : ((nd m).k == 33) = false := by rw [hk]; rfl
  have q31 : ((nd m).k == 31) = false := by rw [hk]; rfl
  have q32 : ((nd m).k == 32) = false := by rw [hk]; rfl
  have q34 : ((nd m).k == 34) = false := by rw [hk]; rfl
  have q35 : ((nd m).k == 35) = false := by rw [hk]; rfl
  have q38 : ((nd m).k == 38) = true := by rw [hk]; rfl
  have HK : Hid ((nd m).k = 38) := hk
  clear hk
  go_enter Tryz.func126, Tryz.ntmps126
  go_wp2_with (first | (go_at_call 200; refine (l3kidI L n nd _ cap nas m _ (by omega) _ hm (HS.out.at'.alloc _)).mono ?_; rintro e w1 ⟨rfl, rfl⟩) | (go_at_call 202; refine (l3exprsI L n nd _ cap nas m _ _ _ hm (by omega) (by omega) (by omega) (by first | exact HS.out.at'.alloc _ | exact HS.out.at'.below hb2)).mono ?_; rintro e w1 ⟨rfl, rfl⟩) | (go_at_call 204; refine (l3many_calls _ _).mono ?_; rintro e w1 ⟨rfl, rfl⟩) | (go_at_call 201; refine (l3bare_calls _ _ _ _ _ _ _ _ _ _ _ _ _ _ _ _).mono ?_; rintro e w2 ⟨rfl, hb2⟩; replace hb2 := below_call (below_alloc _ _) hb2))
  all_goals go_ret
  all_goals refine ⟨ret_bool ?_, by first | exact hb2 | exact below_alloc _ _⟩
  all_goals unfold epB
  all_goals rw [HK.out]
  all_goals simp [bareB, *]

end Go.Proofs.YtiidepafifodjabGreat

/-! The specification's check of a unit: expressions. -/
namespace Go.Proofs.YtiidepafifodjabGreat
open Go.RowKit
attribute [local go_sem] run_store_float
attribute [local go_sem ↓] Go.wp_at_zero Go.wp_at_succ

set_option maxRecDepth 100000 in
set_option maxHeartbeats 4000000 in
theorem ex35_calls (L : Nat) (n : Nat) (nd : Nat → ND) (a : Option Addr) (cap : Nat) (nas : Nat → NA) (m : Nat) (w : World) (hS : StAt L w n nd a nas m) (hk : (nd m).k = 35) :
    Calls Tryz.prog 126 #[.slice a n cap, .int .i64 m] w fun e w' => e = .returned (.bool (epB nd m)) ∧ Below w.heap.size w w' := by
  have HS : Hid (StAt L w n nd a nas m) := hS
  have hm := hS.lt
  clear hS
  obtain ⟨b, off, rfl, _, hb, d0, d1, d2, d3, d4, d5, d6, d7⟩ := cells8 HS.out.at'.1 hm
  have hkn := HS.out.sm.kn
  have hsz := HS.out.sm.s
  have q20 : ((nd m).k == 20) = false := by rw [hk]; rfl
  have q21 : ((nd m).k == 21) = false := by rw [hk]; rfl
  have q22 : ((nd m).k == 22) = false := by rw [hk]; rfl
  have q37 : ((nd m).k == 37) = false := by rw [hk]; rfl
  have q23 : ((nd m).k == 23) = false := by rw [hk]; rfl
  have q24 : ((nd m).k == 24) = false := by rw [hk]; rfl
  have q25 : ((nd m).k == 25) = false := by rw [hk]; rfl
  have q26 : ((nd m).k == 26) = false := by rw [hk]; rfl
  have q27 : ((nd m).k == 27) = false := by rw [hk]; rfl
  have q36 : ((nd m).k == 36) = false := by rw [hk]; rfl
  have q28 : ((nd m).k == 28) = false := by rw [hk]; rfl
  have q29 : ((nd m).k == 29) = false := by rw [hk]; rfl
  have q30 : ((nd m).k == 30) = false := by rw [hk]; rfl
  have q33 : ((nd m).k == 33) = false := by rw [hk]; rfl
  have q31 : ((nd m).k == 31) = false := by rw [hk]; rfl
  have q32 : ((nd m).k == 32) = false := by rw [hk]; rfl
  have q34 : ((nd m).k == 34) = false := by rw [hk]; rfl
  have q35 : ((nd m).k == 35) = true := by rw [hk]; rfl
  have HK : Hid ((nd m).k = 35) := hk
  clear hk
  go_enter Tryz.func126, Tryz.ntmps126
  go_wp2_with (first | (go_at_call 200; refine (l3kidI L n nd _ cap nas m _ (by omega) _ hm (HS.out.at'.alloc _)).mono ?_; rintro e w1 ⟨rfl, rfl⟩) | (go_at_call 202; refine (l3exprsI L n nd _ cap nas m _ _ _ hm (by omega) (by omega) (by omega) (by first | exact HS.out.at'.alloc _ | exact HS.out.at'.below hb2)).mono ?_; rintro e w1 ⟨rfl, rfl⟩) | (go_at_call 204; refine (l3many_calls _ _).mono ?_; rintro e w1 ⟨rfl, rfl⟩) | (go_at_call 201; refine (l3bare_calls _ _ _ _ _ _ _ _ _ _ _ _ _ _ _ _).mono ?_; rintro e w2 ⟨rfl, hb2⟩; replace hb2 := below_call (below_alloc _ _) hb2))
  all_goals go_ret
  all_goals refine ⟨ret_bool ?_, by first | exact hb2 | exact below_alloc _ _⟩
  all_goals unfold epB
  all_goals rw [HK.out]
  all_goals simp [bareB, *] <;> (intros; omega)

end Go.Proofs.YtiidepafifodjabGreat

/-! The specification's check of a unit: the form of a node. -/
namespace Go.Proofs.YtiidepafifodjabGreat
open Go.RowKit
attribute [local go_sem] run_store_float
attribute [local go_sem ↓] Go.wp_at_zero Go.wp_at_succ

set_option maxRecDepth 100000 in
set_option maxHeartbeats 4000000 in
theorem exo_calls (L : Nat) (n : Nat) (nd : Nat → ND) (a : Option Addr) (cap : Nat) (nas : Nat → NA) (m : Nat) (w : World) (hS : StAt L w n nd a nas m) (hk : ¬ (20 ≤ (nd m).k ∧ (nd m).k ≤ 38)) :
    Calls Tryz.prog 126 #[.slice a n cap, .int .i64 m] w fun e w' => e = .returned (.bool (epB nd m)) ∧ Below w.heap.size w w' := by
  have HS : Hid (StAt L w n nd a nas m) := hS
  have hm := hS.lt
  clear hS
  obtain ⟨b, off, rfl, _, hb, d0, d1, d2, d3, d4, d5, d6, d7⟩ := cells8 HS.out.at'.1 hm
  have hkn := HS.out.sm.kn
  have q20 : ((nd m).k == 20) = false := by simpa using (show (nd m).k ≠ 20 by omega)
  have q21 : ((nd m).k == 21) = false := by simpa using (show (nd m).k ≠ 21 by omega)
  have q22 : ((nd m).k == 22) = false := by simpa using (show (nd m).k ≠ 22 by omega)
  have q37 : ((nd m).k == 37) = false := by simpa using (show (nd m).k ≠ 37 by omega)
  have q23 : ((nd m).k == 23) = false := by simpa using (show (nd m).k ≠ 23 by omega)
  have q24 : ((nd m).k == 24) = false := by simpa using (show (nd m).k ≠ 24 by omega)
  have q25 : ((nd m).k == 25) = false := by simpa using (show (nd m).k ≠ 25 by omega)
  have q26 : ((nd m).k == 26) = false := by simpa using (show (nd m).k ≠ 26 by omega)
  have q27 : ((nd m).k == 27) = false := by simpa using (show (nd m).k ≠ 27 by omega)
  have q36 : ((nd m).k == 36) = false := by simpa using (show (nd m).k ≠ 36 by omega)
  have q28 : ((nd m).k == 28) = false := by simpa using (show (nd m).k ≠ 28 by omega)
  have q29 : ((nd m).k == 29) = false := by simpa using (show (nd m).k ≠ 29 by omega)
  have q30 : ((nd m).k == 30) = false := by simpa using (show (nd m).k ≠ 30 by omega)
  have q33 : ((nd m).k == 33) = false := by simpa using (show (nd m).k ≠ 33 by omega)
  have q31 : ((nd m).k == 31) = false := by simpa using (show (nd m).k ≠ 31 by omega)
  have q32 : ((nd m).k == 32) = false := by simpa using (show (nd m).k ≠ 32 by omega)
  have q34 : ((nd m).k == 34) = false := by simpa using (show (nd m).k ≠ 34 by omega)
  have q35 : ((nd m).k == 35) = false := by simpa using (show (nd m).k ≠ 35 by omega)
  have q38 : ((nd m).k == 38) = false := by simpa using (show (nd m).k ≠ 38 by omega)
  have hv : epB nd m = false := by
    unfold epB
    (repeat rw [if_neg (by omega)])
  clear hk
  go_enter Tryz.func126, Tryz.ntmps126
  go_wp2_with (go_at_call 202; refine (l3exprsI L n nd _ cap nas m _ _ _ hm (by omega) (by omega) (by omega) (HS.out.at'.alloc _)).mono ?_; rintro e w1 ⟨rfl, rfl⟩)
  go_ret
  exact ⟨ret_bool hv.symm, below_alloc _ _⟩

theorem l3expression_calls (L : Nat) (n : Nat) (nd : Nat → ND) (a : Option Addr) (cap : Nat) (nas : Nat → NA) (m : Nat) (w : World) (hS : StAt L w n nd a nas m) :
    Calls Tryz.prog 126 #[.slice a n cap, .int .i64 m] w fun e w' => e = .returned (.bool (epB nd m)) ∧ Below w.heap.size w w' := by
  by_cases h : 20 ≤ (nd m).k ∧ (nd m).k ≤ 38
  · rcases (show (nd m).k = 20 ∨ (nd m).k = 21 ∨ (nd m).k = 22 ∨ (nd m).k = 23 ∨ (nd m).k = 24 ∨ (nd m).k = 25 ∨ (nd m).k = 26 ∨ (nd m).k = 27 ∨ (nd m).k = 28 ∨ (nd m).k = 29 ∨ (nd m).k = 30 ∨ (nd m).k = 31 ∨ (nd m).k = 32 ∨ (nd m).k = 33 ∨ (nd m).k = 34 ∨ (nd m).k = 35 ∨ (nd m).k = 36 ∨ (nd m).k = 37 ∨ (nd m).k = 38 by omega) with e | e | e | e | e | e | e | e | e | e | e | e | e | e | e | e | e | e | e
    · exact ex20_calls L n nd a cap nas m w hS e
    · exact ex21_calls L n nd a cap nas m w hS e
    · exact ex22_calls L n nd a cap nas m w hS e
    · exact ex23_calls L n nd a cap nas m w hS e
    · exact ex24_calls L n nd a cap nas m w hS e
    · exact ex25_calls L n nd a cap nas m w hS e
    · exact ex26_calls L n nd a cap nas m w hS e
    · exact ex27_calls L n nd a cap nas m w hS e
    · exact ex28_calls L n nd a cap nas m w hS e
    · exact ex29_calls L n nd a cap nas m w hS e
    · exact ex30_calls L n nd a cap nas m w hS e
    · exact ex31_calls L n nd a cap nas m w hS e
    · exact ex32_calls L n nd a cap nas m w hS e
    · exact ex33_calls L n nd a cap nas m w hS e
    · exact ex34_calls L n nd a cap nas m w hS e
    · exact ex35_calls L n nd a cap nas m w hS e
    · exact ex36_calls L n nd a cap nas m w hS e
    · exact ex37_calls L n nd a cap nas m w hS e
    · exact ex38_calls L n nd a cap nas m w hS e
  · exact exo_calls L n nd a cap nas m w hS h

theorem cell_lt'' {w : World} {b o : Nat} {v : Value} (h : w.cell? ⟨b, o, none⟩ = some v) : b < w.heap.size := by
  refine Nat.lt_of_not_le fun hle => ?_
  have : w.heap[b]? = none := Array.getElem?_eq_none hle
  simp [World.cell?, this] at h

/-- the form of a node, as the specification asks it -/
def shB (nd : Nat → ND) (m : Nat) : Bool :=
  !decide ((200 : Int) < (nd m).kn) && allB (fun i => !(decide ((nd m).c i < 0) || decide ((m : Int) ≤ (nd m).c i))) 0 (nd m).kn &&
    (if stK (nd m).k then decide (1 ≤ (nd m).l) && decide ((nd m).l ≤ 100000) && stB nd m else (nd m).l == 0 && epB nd m)

set_option maxRecDepth 100000 in
set_option maxHeartbeats 4000000 in
theorem l3shape_calls (L : Nat) (n : Nat) (nd : Nat → ND) (a : Option Addr) (cap : Nat) (nas : Nat → NA) (m : Nat) (w : World) (hS : StAt L w n nd a nas m) :
    Calls Tryz.prog 79 #[.slice a n cap, .int .i64 m] w fun e w' => e = .returned (.bool (shB nd m)) ∧ Below w.heap.size w w' := by
  have HS : Hid (StAt L w n nd a nas m) := hS
  have hm := hS.lt
  clear hS
  obtain ⟨b, off, rfl, _, hb, d0, d1, d2, d3, d4, d5, d6, d7⟩ := cells8 HS.out.at'.1 hm
  have hkn := HS.out.sm.kn
  by_cases c0 : (200 : Int) < (nd m).kn
  · have hv : shB nd m = false := by unfold shB; simp [c0]
    go_enter Tryz.func79, Tryz.ntmps79
    go_wp2_with fail
    go_ret
    exact ⟨ret_bool hv.symm, below_alloc _ _⟩
  go_enter Tryz.func79, Tryz.ntmps79
  go_wp2_with fail
  go_loopw [19] (fun i wr => ∃ (k : Nat), k ≤ (nd m).kn ∧ i = .int .i64 k ∧ Hid (∀ j, j < k → 0 ≤ (nd m).c j ∧ (nd m).c j < m) ∧ wr = w.alloc (.cells (nodeC (nd m) (nas m)) 70)) (fun i _ => (nd m).kn - (intOf i).toNat)
  case atStart => exact ⟨0, Nat.zero_le _, rfl, fun j hj => by omega, rfl⟩
  case round =>
    obtain ⟨k, hk, rfl, HK2, rfl⟩ := hrel
    by_cases hlt : k < (nd m).kn
    · obtain ⟨b', off', e0, _, hb', g0⟩ := cells1 ((HS.out.at'.alloc (.cells (nodeC (nd m) (nas m)) 70)).2 m hm).2 hlt
      rw [e0]
      have g1 : w.cell? ⟨b', off' + k, none⟩ = some (.int .i64 ((nd m).c k)) := by
        obtain ⟨b2, off2, e2, _, _, g2⟩ := cells1 (HS.out.at'.2 m hm).2 hlt
        rw [e0] at e2
        obtain ⟨rfl, rfl⟩ : b' = b2 ∧ off' = off2 := by simpa using e2
        exact g2
      have hb2 : b' < w.heap.size := cell_lt'' g1
      by_cases c1 : (nd m).c k < 0
      · have hv : shB nd m = false := by
          unfold shB
          rw [allB_no (k := k) (Nat.zero_le k) hlt (by simp [c1])]
          simp
        go_wp2_with fail
        go_ret
        exact ⟨by first | exact ret_bool hv.symm | rfl, below_alloc _ _⟩
      by_cases c2 : (m : Int) ≤ (nd m).c k
      · have hv : shB nd m = false := by
          unfold shB
          rw [allB_no (k := k) (Nat.zero_le k) hlt (by simp [c2])]
          simp
        go_wp2_with fail
        go_ret
        exact ⟨by first | exact ret_bool hv.symm | rfl, below_alloc _ _⟩
      · go_wp2_with fail
        go_roundw
        case rel => exact ⟨k + 1, by omega, by go_num, fun j h2 => by
          by_cases e : j = k
          · subst e; omega
          · exact HK2.out j (by omega), by first | rfl | trivial⟩
        case measure => simp [intOf]; omega
    · have hv : allB (fun i => !(decide ((nd m).c i < 0) || decide ((m : Int) ≤ (nd m).c i))) 0 (nd m).kn = true := allB_true.2 fun i h1 h2 => by
        have := HK2.out i (by omega)
        simp
        omega
      have HV : Hid (shB nd m = if stK (nd m).k then decide (1 ≤ (nd m).l) && decide ((nd m).l ≤ 100000) && stB nd m else (nd m).l == 0 && epB nd m) := by
        show shB nd m = _
        unfold shB
        rw [hv]
        simp
        omega
      clear hv
      cases hst : stK (nd m).k
      · go_wp2_with (first | (go_at_call 43; refine (l3stat_calls _ _).mono ?_; rw [hst]; rintro e w1 ⟨rfl, rfl⟩) | (go_at_call 126; refine (l3expression_calls L n nd _ cap nas m _ ⟨HS.out.at'.alloc _, hm, HS.out.sm⟩).mono ?_; rintro e w2 ⟨rfl, hb2⟩; replace hb2 := below_call (below_alloc _ _) hb2))
        all_goals go_ret
        all_goals refine ⟨ret_bool ?_, by first | exact hb2 | exact below_alloc _ _⟩
        all_goals rw [HV.out, hst]
        all_goals simp [*]
      · have HST : Hid (stK (nd m).k = true) := hst
        go_wp2_with (first | (go_at_call 43; refine (l3stat_calls _ _).mono ?_; rw [hst]; rintro e w1 ⟨rfl, rfl⟩) | (go_at_call 125; refine (l3statement_calls L n nd _ cap nas m _ ⟨HS.out.at'.alloc _, hm, HS.out.sm⟩ HST.out).mono ?_; rintro e w2 ⟨rfl, hb2⟩; replace hb2 := below_call (below_alloc _ _) hb2))
        all_goals go_ret
        all_goals refine ⟨ret_bool ?_, by first | exact hb2 | exact below_alloc _ _⟩
        all_goals rw [HV.out, hst]
        all_goals simp [*] <;> (intros; omega)
end Go.Proofs.YtiidepafifodjabGreat
