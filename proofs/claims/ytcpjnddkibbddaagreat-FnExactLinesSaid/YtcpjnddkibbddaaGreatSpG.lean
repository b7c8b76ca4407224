import Derived.Test.YtcpjnddkibbddaaGreatSpC
/-! The specification's check of a unit: statements with many kids; all statements. -/
namespace Go.Proofs.YtcpjnddkibbddaaGreat
open Go.RowKit
attribute [local go_sem] run_store_float
attribute [local go_sem ↓] Go.wp_at_zero Go.wp_at_succ

set_option maxRecDepth 100000 in
set_option maxHeartbeats 4000000 in
theorem st1_calls (L : Nat) (n : Nat) (nd : Nat → ND) (a : Option Addr) (cap : Nat) (nas : Nat → NA) (m : Nat) (w : World) (hS : StAt L w n nd a nas m) (hk : (nd m).k = 1) :
    Calls Tryz.prog 81 #[.slice a n cap, .int .i64 m] w fun e w' => e = .returned (.bool (stB nd m)) ∧ Below w.heap.size w w' := by
  have HS : Hid (StAt L w n nd a nas m) := hS
  have hm := hS.lt
  clear hS
  obtain ⟨b, off, rfl, _, hb, d0, d1, d2, d3, d4, d5, d6, d7⟩ := cells8 HS.out.at'.1 hm
  have hkn := HS.out.sm.kn
  have q1 : ((nd m).k == 1) = true := by rw [hk]; rfl
  have HK : Hid ((nd m).k = 1) := hk
  clear hk
  go_enter Tryz.func81, Tryz.ntmps81
  go_wp2_with (go_at_call 137; refine (l3kidI L n nd _ cap nas m _ (by omega) _ hm (HS.out.at'.alloc _)).mono ?_; rintro e w1 ⟨rfl, rfl⟩)
  · go_loopw [37] (fun i wr => ∃ (k : Nat), k ≤ (nd m).kn ∧ i = .int .i64 k ∧ Hid (∀ j, j < k → stK (kidK nd m j) = true) ∧ wr = w.alloc (.cells (nodeC (nd m) (nas m)) 48)) (fun i _ => (nd m).kn - (intOf i).toNat)
    case atStart => exact ⟨0, Nat.zero_le _, rfl, fun j hj => by omega, rfl⟩
    case round =>
      obtain ⟨k, hk, rfl, HK2, rfl⟩ := hrel
      by_cases hlt : k < (nd m).kn
      · cases hp : stK (kidK nd m k)
        · have hv : allB (fun i => stK (kidK nd m i)) 0 (nd m).kn = false := allB_no (Nat.zero_le k) hlt hp
          go_wp2_with (first | (go_at_call 137; refine (l3kid_calls L n nd _ cap nas m k _ hm (HS.out.at'.alloc _)).mono ?_; rintro e w1 ⟨rfl, rfl⟩) | (go_at_call 15; refine (l3stat_calls _ _).mono ?_; rw [hp]; rintro e w1 ⟨rfl, rfl⟩))
          go_ret
          refine ⟨ret_bool ?_, below_alloc _ _⟩
          unfold stB
          rw [HK.out]
          simp [hv]
        · go_wp2_with (first | (go_at_call 137; refine (l3kid_calls L n nd _ cap nas m k _ hm (HS.out.at'.alloc _)).mono ?_; rintro e w1 ⟨rfl, rfl⟩) | (go_at_call 15; refine (l3stat_calls _ _).mono ?_; rw [hp]; rintro e w1 ⟨rfl, rfl⟩))
          go_roundw
          case rel => exact ⟨k + 1, by omega, by go_num, fun j h2 => by
            by_cases e : j = k
            · subst e; exact hp
            · exact HK2.out j (by omega), by first | rfl | trivial⟩
          case measure => simp [intOf]; omega
      · have hv : allB (fun i => stK (kidK nd m i)) 0 (nd m).kn = true := allB_true.2 fun i h1 h2 => HK2.out i (by omega)
        go_wp2_with (first | (go_at_call 139; refine (l3exprsI L n nd _ cap nas m _ _ _ hm (by omega) (by omega) (by omega) (by first | exact HS.out.at'.alloc _ | exact HS.out.at'.below hb2)).mono ?_; rintro e w1 ⟨rfl, rfl⟩) | (go_at_call 138; refine (l3bare_calls _ _ _ _ _ _ _ _ _ _ _ _ _ _ _ _).mono ?_; rintro e w2 ⟨rfl, hb2⟩; replace hb2 := below_call (below_alloc _ _) hb2))
        all_goals go_ret
        all_goals refine ⟨ret_bool ?_, hb2⟩
        all_goals unfold stB
        all_goals rw [HK.out]
        all_goals simp [bareB, hv]
  · go_loopw [37] (fun i wr => ∃ (k : Nat), k ≤ (nd m).kn ∧ i = .int .i64 k ∧ Hid (∀ j, j < k → stK (kidK nd m j) = true) ∧ wr = w.alloc (.cells (nodeC (nd m) (nas m)) 48)) (fun i _ => (nd m).kn - (intOf i).toNat)
    case atStart => exact ⟨0, Nat.zero_le _, rfl, fun j hj => by omega, rfl⟩
    case round =>
      obtain ⟨k, hk, rfl, HK2, rfl⟩ := hrel
      by_cases hlt : k < (nd m).kn
      · cases hp : stK (kidK nd m k)
        · have hv : allB (fun i => stK (kidK nd m i)) 0 (nd m).kn = false := allB_no (Nat.zero_le k) hlt hp
          go_wp2_with (first | (go_at_call 137; refine (l3kid_calls L n nd _ cap nas m k _ hm (HS.out.at'.alloc _)).mono ?_; rintro e w1 ⟨rfl, rfl⟩) | (go_at_call 15; refine (l3stat_calls _ _).mono ?_; rw [hp]; rintro e w1 ⟨rfl, rfl⟩))
          go_ret
          refine ⟨ret_bool ?_, below_alloc _ _⟩
          unfold stB
          rw [HK.out]
          simp [hv]
        · go_wp2_with (first | (go_at_call 137; refine (l3kid_calls L n nd _ cap nas m k _ hm (HS.out.at'.alloc _)).mono ?_; rintro e w1 ⟨rfl, rfl⟩) | (go_at_call 15; refine (l3stat_calls _ _).mono ?_; rw [hp]; rintro e w1 ⟨rfl, rfl⟩))
          go_roundw
          case rel => exact ⟨k + 1, by omega, by go_num, fun j h2 => by
            by_cases e : j = k
            · subst e; exact hp
            · exact HK2.out j (by omega), by first | rfl | trivial⟩
          case measure => simp [intOf]; omega
      · have hv : allB (fun i => stK (kidK nd m i)) 0 (nd m).kn = true := allB_true.2 fun i h1 h2 => HK2.out i (by omega)
        go_wp2_with (first | (go_at_call 139; refine (l3exprsI L n nd _ cap nas m _ _ _ hm (by omega) (by omega) (by omega) (by first | exact HS.out.at'.alloc _ | exact HS.out.at'.below hb2)).mono ?_; rintro e w1 ⟨rfl, rfl⟩) | (go_at_call 138; refine (l3bare_calls _ _ _ _ _ _ _ _ _ _ _ _ _ _ _ _).mono ?_; rintro e w2 ⟨rfl, hb2⟩; replace hb2 := below_call (below_alloc _ _) hb2))
        all_goals go_ret
        all_goals refine ⟨ret_bool ?_, hb2⟩
        all_goals unfold stB
        all_goals rw [HK.out]
        all_goals simp [bareB, hv]

set_option maxRecDepth 100000 in
set_option maxHeartbeats 4000000 in
theorem st3_calls (L : Nat) (n : Nat) (nd : Nat → ND) (a : Option Addr) (cap : Nat) (nas : Nat → NA) (m : Nat) (w : World) (hS : StAt L w n nd a nas m) (hk : (nd m).k = 3) :
    Calls Tryz.prog 81 #[.slice a n cap, .int .i64 m] w fun e w' => e = .returned (.bool (stB nd m)) ∧ Below w.heap.size w w' := by
  have HS : Hid (StAt L w n nd a nas m) := hS
  have hm := hS.lt
  clear hS
  obtain ⟨b, off, rfl, _, hb, d0, d1, d2, d3, d4, d5, d6, d7⟩ := cells8 HS.out.at'.1 hm
  have hkn := HS.out.sm.kn
  have q1 : ((nd m).k == 1) = false := by rw [hk]; rfl
  have q2 : ((nd m).k == 2) = false := by rw [hk]; rfl
  have q3 : ((nd m).k == 3) = true := by rw [hk]; rfl
  have HK : Hid ((nd m).k = 3) := hk
  clear hk
  by_cases c1 : (nd m).n < 1
  · go_enter Tryz.func81, Tryz.ntmps81
    go_wp2_with (go_at_call 137; refine (l3kidI L n nd _ cap nas m _ (by omega) _ hm (HS.out.at'.alloc _)).mono ?_; rintro e w1 ⟨rfl, rfl⟩)
    all_goals go_ret
    all_goals refine ⟨ret_bool ?_, below_alloc _ _⟩
    all_goals unfold stB
    all_goals rw [HK.out]
    all_goals simp [c1]
  by_cases c2 : ((nd m).kn : Int) ≤ (nd m).n
  · go_enter Tryz.func81, Tryz.ntmps81
    go_wp2_with (go_at_call 137; refine (l3kidI L n nd _ cap nas m _ (by omega) _ hm (HS.out.at'.alloc _)).mono ?_; rintro e w1 ⟨rfl, rfl⟩)
    all_goals go_ret
    all_goals refine ⟨ret_bool ?_, below_alloc _ _⟩
    all_goals unfold stB
    all_goals rw [HK.out]
    all_goals simp [c2]
  have c3 : 0 < (nd m).kn := by omega
  go_enter Tryz.func81, Tryz.ntmps81
  go_wp2_with (go_at_call 137; refine (l3kidI L n nd _ cap nas m _ (by omega) _ hm (HS.out.at'.alloc _)).mono ?_; rintro e w1 ⟨rfl, rfl⟩)
  · go_loopw [9] (fun i wr => ∃ (k : Nat), k ≤ (nd m).n.toNat ∧ i = .int .i64 k ∧ Hid (∀ j, j < k → tgK (kidK nd m j) = true) ∧ wr = w.alloc (.cells (nodeC (nd m) (nas m)) 48)) (fun i _ => (nd m).n.toNat - (intOf i).toNat)
    case atStart => exact ⟨0, Nat.zero_le _, rfl, fun j hj => by omega, rfl⟩
    case round =>
      obtain ⟨k, hk, rfl, HK2, rfl⟩ := hrel
      by_cases hlt : k < (nd m).n.toNat
      · cases hp : tgK (kidK nd m k)
        · have hv : allB (fun i => tgK (kidK nd m i)) 0 (nd m).n.toNat = false := allB_no (Nat.zero_le k) hlt hp
          go_wp2_with (first | (go_at_call 137; refine (l3kid_calls L n nd _ cap nas m k _ hm (HS.out.at'.alloc _)).mono ?_; rintro e w1 ⟨rfl, rfl⟩) | (go_at_call 140; refine (l3target_calls _ _).mono ?_; rw [hp]; rintro e w1 ⟨rfl, rfl⟩))
          go_ret
          refine ⟨ret_bool ?_, below_alloc _ _⟩
          unfold stB
          rw [HK.out]
          simp [hv]
        · go_wp2_with (first | (go_at_call 137; refine (l3kid_calls L n nd _ cap nas m k _ hm (HS.out.at'.alloc _)).mono ?_; rintro e w1 ⟨rfl, rfl⟩) | (go_at_call 140; refine (l3target_calls _ _).mono ?_; rw [hp]; rintro e w1 ⟨rfl, rfl⟩))
          go_roundw
          case rel => exact ⟨k + 1, by omega, by go_num, fun j h2 => by
            by_cases e : j = k
            · subst e; exact hp
            · exact HK2.out j (by omega), by first | rfl | trivial⟩
          case measure => simp [intOf]; omega
      · have hv : allB (fun i => tgK (kidK nd m i)) 0 (nd m).n.toNat = true := allB_true.2 fun i h1 h2 => HK2.out i (by omega)
        go_wp2_with (first | (go_at_call 139; refine (l3exprsI L n nd _ cap nas m _ _ _ hm (by omega) (by omega) (by omega) (by first | exact HS.out.at'.alloc _ | exact HS.out.at'.below hb2)).mono ?_; rintro e w1 ⟨rfl, rfl⟩) | (go_at_call 138; refine (l3bare_calls _ _ _ _ _ _ _ _ _ _ _ _ _ _ _ _).mono ?_; rintro e w2 ⟨rfl, hb2⟩; have hc3 := (Has.made hb2).cell 3 rfl; replace hb2 := below_call (below_alloc _ _) hb2))
        all_goals go_ret
        all_goals refine ⟨ret_bool ?_, hb2⟩
        all_goals unfold stB
        all_goals rw [HK.out]
        all_goals simp [bareB, *]

theorem l3statement_calls (L : Nat) (n : Nat) (nd : Nat → ND) (a : Option Addr) (cap : Nat) (nas : Nat → NA) (m : Nat) (w : World) (hS : StAt L w n nd a nas m) (hk : stK (nd m).k = true) :
    Calls Tryz.prog 81 #[.slice a n cap, .int .i64 m] w fun e w' => e = .returned (.bool (stB nd m)) ∧ Below w.heap.size w w' := by
  have h : 1 ≤ (nd m).k ∧ (nd m).k ≤ 14 := by simpa [stK] using hk
  rcases (show (nd m).k = 1 ∨ (nd m).k = 2 ∨ (nd m).k = 3 ∨ (nd m).k = 4 ∨ (nd m).k = 5 ∨ (nd m).k = 6 ∨ (nd m).k = 7 ∨ (nd m).k = 8 ∨ (nd m).k = 9 ∨ (nd m).k = 10 ∨ (nd m).k = 11 ∨ (nd m).k = 12 ∨ (nd m).k = 13 ∨ (nd m).k = 14 by omega) with e | e | e | e | e | e | e | e | e | e | e | e | e | e
  · exact st1_calls L n nd a cap nas m w hS e
  · exact st2_calls L n nd a cap nas m w hS e
  · exact st3_calls L n nd a cap nas m w hS e
  · exact st4_calls L n nd a cap nas m w hS e
  · exact st5_calls L n nd a cap nas m w hS e
  · exact st6_calls L n nd a cap nas m w hS e
  · exact st7_calls L n nd a cap nas m w hS e
  · exact st8_calls L n nd a cap nas m w hS e
  · exact st9_calls L n nd a cap nas m w hS e
  · exact st10_calls L n nd a cap nas m w hS e
  · exact st11_calls L n nd a cap nas m w hS e
  · exact st12_calls L n nd a cap nas m w hS e
  · exact st13_calls L n nd a cap nas m w hS e
  · exact st14_calls L n nd a cap nas m w hS e
end Go.Proofs.YtcpjnddkibbddaaGreat

/-! The specification's check of a unit: an expression's form. -/
namespace Go.Proofs.YtcpjnddkibbddaaGreat
open Go.RowKit
attribute [local go_sem] run_store_float
attribute [local go_sem ↓] Go.wp_at_zero Go.wp_at_succ

/-- a float that is not a NaN -/
def nnB (f : Nat) : Bool := FloatKind.f64.format.order f f == some .eq
/-- the form of an expression, as the specification asks it -/
def epB (nd : Nat → ND) (m : Nat) : Bool :=
  if (nd m).k = 20 ∨ (nd m).k = 21 ∨ (nd m).k = 22 ∨ (nd m).k = 37 then ((nd m).kn : Int) == 0 && bareB (nd m) false false false false 0
  else if (nd m).k = 23 then ((nd m).kn : Int) == 0 && bareB (nd m) false true false false 0
  else if (nd m).k = 24 then ((nd m).kn : Int) == 0 && nnB (nd m).f && bareB (nd m) false false true false 0
  else if (nd m).k = 25 then ((nd m).kn : Int) == 0 && decide (((nd m).s.size : Int) ≤ 4000) && bareB (nd m) false false false true 0
  else if (nd m).k = 26 ∨ (nd m).k = 27 ∨ (nd m).k = 36 then ((nd m).kn : Int) == 0 && bareB (nd m) false false false false 1
  else if (nd m).k = 28 then ((nd m).kn : Int) == 0 && decide (0 ≤ (nd m).n) && decide ((nd m).n < 15) && bareB (nd m) false true false false 0
  else if (nd m).k = 29 ∨ (nd m).k = 30 ∨ (nd m).k = 33 then ((nd m).kn : Int) == 2 && exsB nd m 0 (nd m).kn && bareB (nd m) false false false false 0
  else if (nd m).k = 31 then ((nd m).kn : Int) == 1 && exsB nd m 0 (nd m).kn && decide (19 ≤ (nd m).o) && decide ((nd m).o ≤ 22) && bareB (nd m) true false false false 0
  else if (nd m).k = 32 then ((nd m).kn : Int) == 2 && exsB nd m 0 (nd m).kn && decide (1 ≤ (nd m).o) && decide ((nd m).o ≤ 18) && bareB (nd m) true false false false 0
  else if (nd m).k = 34 then decide ((1 : Int) ≤ (nd m).kn) && exsB nd m 0 (nd m).kn && bareB (nd m) false false false false 0
  else if (nd m).k = 35 then ((nd m).kn : Int) % 2 == 0 && exsB nd m 0 (nd m).kn && ((nd m).o == 0 || (nd m).o == 1 && decide ((2 : Int) ≤ (nd m).kn) && kidK nd m ((nd m).kn - 2) == 23 && mnK (kidK nd m ((nd m).kn - 1))) && bareB (nd m) true false false false 0
  else if (nd m).k = 38 then ((nd m).kn : Int) == 1 && mnK (kidK nd m 0) && bareB (nd m) false false false false 0
  else false

end Go.Proofs.YtcpjnddkibbddaaGreat

/-! The specification's check of a unit: expressions. -/
namespace Go.Proofs.YtcpjnddkibbddaaGreat
open Go.RowKit
attribute [local go_sem] run_store_float
attribute [local go_sem ↓] Go.wp_at_zero Go.wp_at_succ

set_option maxRecDepth 100000 in
set_option maxHeartbeats 4000000 in
theorem ex20_calls (L : Nat) (n : Nat) (nd : Nat → ND) (a : Option Addr) (cap : Nat) (nas : Nat → NA) (m : Nat) (w : World) (hS : StAt L w n nd a nas m) (hk : (nd m).k = 20) :
    Calls Tryz.prog 82 #[.slice a n cap, .int .i64 m] w fun e w' => e = .returned (.bool (epB nd m)) ∧ Below w.heap.size w w' := by
  have HS : Hid (StAt L w n nd a nas m) := hS
  have hm := hS.lt
  clear hS
  obtain ⟨b, off, rfl, _, hb, d0, d1, d2, d3, d4, d5, d6, d7⟩ := cells8 HS.out.at'.1 hm
  have hkn := HS.out.sm.kn
  have hsz := HS.out.sm.s
  have q20 : ((nd m).k == 20) = true := by rw [hk]; rfl
  have HK : Hid ((nd m).k = 20) := hk
  clear hk
  go_enter Tryz.func82, Tryz.ntmps82
  go_wp2_with (first | (go_at_call 137; refine (l3kidI L n nd _ cap nas m _ (by omega) _ hm (HS.out.at'.alloc _)).mono ?_; rintro e w1 ⟨rfl, rfl⟩) | (go_at_call 139; refine (l3exprsI L n nd _ cap nas m _ _ _ hm (by omega) (by omega) (by omega) (by first | exact HS.out.at'.alloc _ | exact HS.out.at'.below hb2)).mono ?_; rintro e w1 ⟨rfl, rfl⟩) | (go_at_call 141; refine (l3many_calls _ _).mono ?_; rintro e w1 ⟨rfl, rfl⟩) | (go_at_call 138; refine (l3bare_calls _ _ _ _ _ _ _ _ _ _ _ _ _ _ _ _).mono ?_; rintro e w2 ⟨rfl, hb2⟩; replace hb2 := below_call (below_alloc _ _) hb2))
  all_goals go_ret
  all_goals refine ⟨ret_bool ?_, by first | exact hb2 | exact below_alloc _ _⟩
  all_goals unfold epB
  all_goals rw [HK.out]
  all_goals simp [bareB, *]

set_option maxRecDepth 100000 in
set_option maxHeartbeats 4000000 in
theorem ex21_calls (L : Nat) (n : Nat) (nd : Nat → ND) (a : Option Addr) (cap : Nat) (nas : Nat → NA) (m : Nat) (w : World) (hS : StAt L w n nd a nas m) (hk : (nd m).k = 21) :
    Calls Tryz.prog 82 #[.slice a n cap, .int .i64 m] w fun e w' => e = .returned (.bool (epB nd m)) ∧ Below w.heap.size w w' := by
  have HS : Hid (StAt L w n nd a nas m) := hS
  have hm := hS.lt
  clear hS
  obtain ⟨b, off, rfl, _, hb, d0, d1, d2, d3, d4, d5, d6, d7⟩ := cells8 HS.out.at'.1 hm
  have hkn := HS.out.sm.kn
  have hsz := HS.out.sm.s
  have q20 : ((nd m).k == 20) = false := by rw [hk]; rfl
  have q21 : ((nd m).k == 21) = true := by rw [hk]; rfl
  have HK : Hid ((nd m).k = 21) := hk
  clear hk
  go_enter Tryz.func82, Tryz.ntmps82
  go_wp2_with (first | (go_at_call 137; refine (l3kidI L n nd _ cap nas m _ (by omega) _ hm (HS.out.at'.alloc _)).mono ?_; rintro e w1 ⟨rfl, rfl⟩) | (go_at_call 139; refine (l3exprsI L n nd _ cap nas m _ _ _ hm (by omega) (by omega) (by omega) (by first | exact HS.out.at'.alloc _ | exact HS.out.at'.below hb2)).mono ?_; rintro e w1 ⟨rfl, rfl⟩) | (go_at_call 141; refine (l3many_calls _ _).mono ?_; rintro e w1 ⟨rfl, rfl⟩) | (go_at_call 138; refine (l3bare_calls _ _ _ _ _ _ _ _ _ _ _ _ _ _ _ _).mono ?_; rintro e w2 ⟨rfl, hb2⟩; replace hb2 := below_call (below_alloc _ _) hb2))
  all_goals go_ret
  all_goals refine ⟨ret_bool ?_, by first | exact hb2 | exact below_alloc _ _⟩
  all_goals unfold epB
  all_goals rw [HK.out]
  all_goals simp [bareB, *]

set_option maxRecDepth 100000 in
set_option maxHeartbeats 4000000 in
theorem ex22_calls (L : Nat) (n : Nat) (nd : Nat → ND) (a : Option Addr) (cap : Nat) (nas : Nat → NA) (m : Nat) (w : World) (hS : StAt L w n nd a nas m) (hk : (nd m).k = 22) :
    Calls Tryz.prog 82 #[.slice a n cap, .int .i64 m] w fun e w' => e = .returned (.bool (epB nd m)) ∧ Below w.heap.size w w' := by
  have HS : Hid (StAt L w n nd a nas m) := hS
  have hm := hS.lt
  clear hS
  obtain ⟨b, off, rfl, _, hb, d0, d1, d2, d3, d4, d5, d6, d7⟩ := cells8 HS.out.at'.1 hm
  have hkn := HS.out.sm.kn
  have hsz := HS.out.sm.s
  have q20 : ((nd m).k == 20) = false := by rw [hk]; rfl
  have q21 : ((nd m).k == 21) = false := by rw [hk]; rfl
  have q22 : ((nd m).k == 22) = true := by rw [hk]; rfl
  have HK : Hid ((nd m).k = 22) := hk
  clear hk
  go_enter Tryz.func82, Tryz.ntmps82
  go_wp2_with (first | (go_at_call 137; refine (l3kidI L n nd _ cap nas m _ (by omega) _ hm (HS.out.at'.alloc _)).mono ?_; rintro e w1 ⟨rfl, rfl⟩) | (go_at_call 139; refine (l3exprsI L n nd _ cap nas m _ _ _ hm (by omega) (by omega) (by omega) (by first | exact HS.out.at'.alloc _ | exact HS.out.at'.below hb2)).mono ?_; rintro e w1 ⟨rfl, rfl⟩) | (go_at_call 141; refine (l3many_calls _ _).mono ?_; rintro e w1 ⟨rfl, rfl⟩) | (go_at_call 138; refine (l3bare_calls _ _ _ _ _ _ _ _ _ _ _ _ _ _ _ _).mono ?_; rintro e w2 ⟨rfl, hb2⟩; replace hb2 := below_call (below_alloc _ _) hb2))
  all_goals go_ret
  all_goals refine ⟨ret_bool ?_, by first | exact hb2 | exact below_alloc _ _⟩
  all_goals unfold epB
  all_goals rw [HK.out]
  all_goals simp [bareB, *]

set_option maxRecDepth 100000 in
set_option maxHeartbeats 4000000 in
theorem ex37_calls (L : Nat) (n : Nat) (nd : Nat → ND) (a : Option Addr) (cap : Nat) (nas : Nat → NA) (m : Nat) (w : World) (hS : StAt L w n nd a nas m) (hk : (nd m).k = 37) :
    Calls Tryz.prog 82 #[.slice a n cap, .int .i64 m] w fun e w' => e = .returned (.bool (epB nd m)) ∧ Below w.heap.size w w' := by
  have HS : Hid (StAt L w n nd a nas m) := hS
  have hm := hS.lt
  clear hS
  obtain ⟨b, off, rfl, _, hb, d0, d1, d2, d3, d4, d5, d6, d7⟩ := cells8 HS.out.at'.1 hm
  have hkn := HS.out.sm.kn
  have hsz := HS.out.sm.s
  have q20 : ((nd m).k == 20) = false := by rw [hk]; rfl
  have q21 : ((nd m).k == 21) = false := by rw [hk]; rfl
  have q22 : ((nd m).k == 22) = false := by rw [hk]; rfl
  have q37 : ((nd m).k == 37) = true := by rw [hk]; rfl
  have HK : Hid ((nd m).k = 37) := hk
  clear hk
  go_enter Tryz.func82, Tryz.ntmps82
  go_wp2_with (first | (go_at_call 137; refine (l3kidI L n nd _ cap nas m _ (by omega) _ hm (HS.out.at'.alloc _)).mono ?_; rintro e w1 ⟨rfl, rfl⟩) | (go_at_call 139; refine (l3exprsI L n nd _ cap nas m _ _ _ hm (by omega) (by omega) (by omega) (by first | exact HS.out.at'.alloc _ | exact HS.out.at'.below hb2)).mono ?_; rintro e w1 ⟨rfl, rfl⟩) | (go_at_call 141; refine (l3many_calls _ _).mono ?_; rintro e w1 ⟨rfl, rfl⟩) | (go_at_call 138; refine (l3bare_calls _ _ _ _ _ _ _ _ _ _ _ _ _ _ _ _).mono ?_; rintro e w2 ⟨rfl, hb2⟩; replace hb2 := below_call (below_alloc _ _) hb2))
  all_goals go_ret
  all_goals refine ⟨ret_bool ?_, by first | exact hb2 | exact below_alloc _ _⟩
  all_goals unfold epB
  all_goals rw [HK.out]
  all_goals simp [bareB, *]

set_option maxRecDepth 100000 in
set_option maxHeartbeats 4000000 in
theorem ex23_calls (L : Nat) (n : Nat) (nd : Nat → ND) (a : Option Addr) (cap : Nat) (nas : Nat → NA) (m : Nat) (w : World) (hS : StAt L w n nd a nas m) (hk : (nd m).k = 23) :
    Calls Tryz.prog 82 #[.slice a n cap, .int .i64 m] w fun e w' => e = .returned (.bool (epB nd m)) ∧ Below w.heap.size w w' := by
  have HS : Hid (StAt L w n nd a nas m) := hS
  have hm := hS.lt
  clear hS
  obtain ⟨b, off, rfl, _, hb, d0, d1, d2, d3, d4, d5, d6, d7⟩ := cells8 HS.out.at'.1 hm
  have hkn := HS.out.sm.kn
  have hsz := HS.out.sm.s
  have q20 : ((nd m).k == 20) = false := by rw [hk]; rfl
  have q21 : ((nd m).k == 21) = false := by rw [hk]; rfl
  have q22 : ((nd m).k == 22) = false := by rw [hk]; rfl
  have q37 : ((nd m).k == 37) = false := by rw [hk]; rfl
  have q23 : ((nd m).k == 23) = true := by rw [hk]; rfl
  have HK : Hid ((nd m).k = 23) := hk
  clear hk
  go_enter Tryz.func82, Tryz.ntmps82
  go_wp2_with (first | (go_at_call 137; refine (l3kidI L n nd _ cap nas m _ (by omega) _ hm (HS.out.at'.alloc _)).mono ?_; rintro e w1 ⟨rfl, rfl⟩) | (go_at_call 139; refine (l3exprsI L n nd _ cap nas m _ _ _ hm (by omega) (by omega) (by omega) (by first | exact HS.out.at'.alloc _ | exact HS.out.at'.below hb2)).mono ?_; rintro e w1 ⟨rfl, rfl⟩) | (go_at_call 141; refine (l3many_calls _ _).mono ?_; rintro e w1 ⟨rfl, rfl⟩) | (go_at_call 138; refine (l3bare_calls _ _ _ _ _ _ _ _ _ _ _ _ _ _ _ _).mono ?_; rintro e w2 ⟨rfl, hb2⟩; replace hb2 := below_call (below_alloc _ _) hb2))
  all_goals go_ret
  all_goals refine ⟨ret_bool ?_, by first | exact hb2 | exact below_alloc _ _⟩
  all_goals unfold epB
  all_goals rw [HK.out]
  all_goals simp [bareB, *]

end Go.Proofs.YtcpjnddkibbddaaGreat
