import Derived.Test.YtcpjnddkibbddaaGreatSpG
import Derived.Test.YtcpjnddkibbddaaGreatSpJ
import Derived.Test.YtcpjnddkibbddaaGreatFa
/-! The specification's check of a unit: expressions. -/
namespace Go.Proofs.YtcpjnddkibbddaaGreat
open Go.RowKit
attribute [local go_sem] run_store_float
attribute [local go_sem ↓] Go.wp_at_zero Go.wp_at_succ

set_option maxRecDepth 100000 in
set_option maxHeartbeats 4000000 in
theorem ex35_calls (L : Nat) (n : Nat) (nd : Nat → ND) (a : Option Addr) (cap : Nat) (nas : Nat → NA) (m : Nat) (w : World) (hS : StAt L w n nd a nas m) (hk : (nd m).k = 35) :
    Calls Tryz.prog 82 #[.slice a n cap, .int .i64 m] w fun e w' => e = .returned (.bool (epB nd m)) ∧ Below w.heap.size w w' := by
  have HS : Hid (StAt L w n nd a nas m) := hS
  have hm := hS.lt
  clear hS
  obtain ⟨b, off, rfl, _, hb, d0, d1, d2, d3, d4, d5, d6, d7⟩ := cells8 HS.out.at'.1 hm
  have hkn := HS.out.sm.kn
  have hsz := HS.out.sm.s
  have q20 : ((nd m).k == 20) = false := by rw [hk]; rfl
  have q21 : ((nd m).k == 21) = false := by rw [hk]; rfl
  have q22 : ((nd m).k == 22) = false := by rw [hk]; rfl
  have q37 : ((nd m).k == 37) = false := by rw [hk]; rfl
  have q23 : ((nd m).k == 23) = false := by rw [hk]; rfl
  have q24 : ((nd m).k == 24) = false := by rw [hk]; rfl
  have q25 : ((nd m).k == 25) = false := by rw [hk]; rfl
  have q26 : ((nd m).k == 26) = false := by rw [hk]; rfl
  have q27 : ((nd m).k == 27) = false := by rw [hk]; rfl
  have q36 : ((nd m).k == 36) = false := by rw [hk]; rfl
  have q28 : ((nd m).k == 28) = false := by rw [hk]; rfl
  have q29 : ((nd m).k == 29) = false := by rw [hk]; rfl
  have q30 : ((nd m).k == 30) = false := by rw [hk]; rfl
  have q33 : ((nd m).k == 33) = false := by rw [hk]; rfl
  have q31 : ((nd m).k == 31) = false := by rw [hk]; rfl
  have q32 : ((nd m).k == 32) = false := by rw [hk]; rfl
  have q34 : ((nd m).k == 34) = false := by rw [hk]; rfl
  have q35 : ((nd m).k == 35) = true := by rw [hk]; rfl
  have HK : Hid ((nd m).k = 35) := hk
  clear hk
  go_enter Tryz.func82, Tryz.ntmps82
  go_wp2_with (first | (go_at_call 137; refine (l3kidI L n nd _ cap nas m _ (by omega) _ hm (HS.out.at'.alloc _)).mono ?_; rintro e w1 ⟨rfl, rfl⟩) | (go_at_call 139; refine (l3exprsI L n nd _ cap nas m _ _ _ hm (by omega) (by omega) (by omega) (by first | exact HS.out.at'.alloc _ | exact HS.out.at'.below hb2)).mono ?_; rintro e w1 ⟨rfl, rfl⟩) | (go_at_call 141; refine (l3many_calls _ _).mono ?_; rintro e w1 ⟨rfl, rfl⟩) | (go_at_call 138; refine (l3bare_calls _ _ _ _ _ _ _ _ _ _ _ _ _ _ _ _).mono ?_; rintro e w2 ⟨rfl, hb2⟩; replace hb2 := below_call (below_alloc _ _) hb2))
  all_goals go_ret
  all_goals refine ⟨ret_bool ?_, by first | exact hb2 | exact below_alloc _ _⟩
  all_goals unfold epB
  all_goals rw [HK.out]
  all_goals simp [bareB, *] <;> (intros; omega)

end Go.Proofs.YtcpjnddkibbddaaGreat

/-! The specification's check of a unit: the form of a node. -/
namespace Go.Proofs.YtcpjnddkibbddaaGreat
open Go.RowKit
attribute [local go_sem] run_store_float
attribute [local go_sem ↓] Go.wp_at_zero Go.wp_at_succ

set_option maxRecDepth 100000 in
set_option maxHeartbeats 4000000 in
theorem exo_calls (L : Nat) (n : Nat) (nd : Nat → ND) (a : Option Addr) (cap : Nat) (nas : Nat → NA) (m : Nat) (w : World) (hS : StAt L w n nd a nas m) (hk : ¬ (20 ≤ (nd m).k ∧ (nd m).k ≤ 38)) :
    Calls Tryz.prog 82 #[.slice a n cap, .int .i64 m] w fun e w' => e = .returned (.bool (epB nd m)) ∧ Below w.heap.size w w' := by
  have HS : Hid (StAt L w n nd a nas m) := hS
  have hm := hS.lt
  clear hS
  obtain ⟨b, off, rfl, _, hb, d0, d1, d2, d3, d4, d5, d6, d7⟩ := cells8 HS.out.at'.1 hm
  have hkn := HS.out.sm.kn
  have q20 : ((nd m).k == 20) = false := by simpa using (show (nd m).k ≠ 20 by omega)
  have q21 : ((nd m).k == 21) = false := by simpa using (show (nd m).k ≠ 21 by omega)
  have q22 : ((nd m).k == 22) = false := by simpa using (show (nd m).k ≠ 22 by omega)
  have q37 : ((nd m).k == 37) = false := by simpa using (show (nd m).k ≠ 37 by omega)
  have q23 : ((nd m).k == 23) = false := by simpa using (show (nd m).k ≠ 23 by omega)
  have q24 : ((nd m).k == 24) = false := by simpa using (show (nd m).k ≠ 24 by omega)
  have q25 : ((nd m).k == 25) = false := by simpa using (show (nd m).k ≠ 25 by omega)
  have q26 : ((nd m).k == 26) = false := by simpa using (show (nd m).k ≠ 26 by omega)
  have q27 : ((nd m).k == 27) = false := by simpa using (show (nd m).k ≠ 27 by omega)
  have q36 : ((nd m).k == 36) = false := by simpa using (show (nd m).k ≠ 36 by omega)
  have q28 : ((nd m).k == 28) = false := by simpa using (show (nd m).k ≠ 28 by omega)
  have q29 : ((nd m).k == 29) = false := by simpa using (show (nd m).k ≠ 29 by omega)
  have q30 : ((nd m).k == 30) = false := by simpa using (show (nd m).k ≠ 30 by omega)
  have q33 : ((nd m).k == 33) = false := by simpa using (show (nd m).k ≠ 33 by omega)
  have q31 : ((nd m).k == 31) = false := by simpa using (show (nd m).k ≠ 31 by omega)
  have q32 : ((nd m).k == 32) = false := by simpa using (show (nd m).k ≠ 32 by omega)
  have q34 : ((nd m).k == 34) = false := by simpa using (show (nd m).k ≠ 34 by omega)
  have q35 : ((nd m).k == 35) = false := by simpa using (show (nd m).k ≠ 35 by omega)
  have q38 : ((nd m).k == 38) = false := by simpa using (show (nd m).k ≠ 38 by omega)
  have hv : epB nd m = false := by
    unfold epB
    (repeat rw [if_neg (by omega)])
  clear hk
  go_enter Tryz.func82, Tryz.ntmps82
  go_wp2_with (go_at_call 139; refine (l3exprsI L n nd _ cap nas m _ _ _ hm (by omega) (by omega) (by omega) (HS.out.at'.alloc _)).mono ?_; rintro e w1 ⟨rfl, rfl⟩)
  go_ret
  exact ⟨ret_bool hv.symm, below_alloc _ _⟩

theorem l3expression_calls (L : Nat) (n : Nat) (nd : Nat → ND) (a : Option Addr) (cap : Nat) (nas : Nat → NA) (m : Nat) (w : World) (hS : StAt L w n nd a nas m) :
    Calls Tryz.prog 82 #[.slice a n cap, .int .i64 m] w fun e w' => e = .returned (.bool (epB nd m)) ∧ Below w.heap.size w w' := by
  by_cases h : 20 ≤ (nd m).k ∧ (nd m).k ≤ 38
  · rcases (show (nd m).k = 20 ∨ (nd m).k = 21 ∨ (nd m).k = 22 ∨ (nd m).k = 23 ∨ (nd m).k = 24 ∨ (nd m).k = 25 ∨ (nd m).k = 26 ∨ (nd m).k = 27 ∨ (nd m).k = 28 ∨ (nd m).k = 29 ∨ (nd m).k = 30 ∨ (nd m).k = 31 ∨ (nd m).k = 32 ∨ (nd m).k = 33 ∨ (nd m).k = 34 ∨ (nd m).k = 35 ∨ (nd m).k = 36 ∨ (nd m).k = 37 ∨ (nd m).k = 38 by omega) with e | e | e | e | e | e | e | e | e | e | e | e | e | e | e | e | e | e | e
    · exact ex20_calls L n nd a cap nas m w hS e
    · exact ex21_calls L n nd a cap nas m w hS e
    · exact ex22_calls L n nd a cap nas m w hS e
    · exact ex23_calls L n nd a cap nas m w hS e
    · exact ex24_calls L n nd a cap nas m w hS e
    · exact ex25_calls L n nd a cap nas m w hS e
    · exact ex26_calls L n nd a cap nas m w hS e
    · exact ex27_calls L n nd a cap nas m w hS e
    · exact ex28_calls L n nd a cap nas m w hS e
    · exact ex29_calls L n nd a cap nas m w hS e
    · exact ex30_calls L n nd a cap nas m w hS e
    · exact ex31_calls L n nd a cap nas m w hS e
    · exact ex32_calls L n nd a cap nas m w hS e
    · exact ex33_calls L n nd a cap nas m w hS e
    · exact ex34_calls L n nd a cap nas m w hS e
    · exact ex35_calls L n nd a cap nas m w hS e
    · exact ex36_calls L n nd a cap nas m w hS e
    · exact ex37_calls L n nd a cap nas m w hS e
    · exact ex38_calls L n nd a cap nas m w hS e
  · exact exo_calls L n nd a cap nas m w hS h

theorem cell_lt'' {w : World} {b o : Nat} {v : Value} (h : w.cell? ⟨b, o, none⟩ = some v) : b < w.heap.size := by
  refine Nat.lt_of_not_le fun hle => ?_
  have : w.heap[b]? = none := Array.getElem?_eq_none hle
  simp [World.cell?, this] at h

/-- the form of a node, as the specification asks it -/
def shB (nd : Nat → ND) (m : Nat) : Bool :=
  !decide ((200 : Int) < (nd m).kn) && allB (fun i => !(decide ((nd m).c i < 0) || decide ((m : Int) ≤ (nd m).c i))) 0 (nd m).kn &&
    (if stK (nd m).k then decide (1 ≤ (nd m).l) && decide ((nd m).l ≤ 100000) && stB nd m else (nd m).l == 0 && epB nd m)

set_option maxRecDepth 100000 in
set_option maxHeartbeats 4000000 in
theorem l3shape_calls (L : Nat) (n : Nat) (nd : Nat → ND) (a : Option Addr) (cap : Nat) (nas : Nat → NA) (m : Nat) (w : World) (hS : StAt L w n nd a nas m) :
    Calls Tryz.prog 47 #[.slice a n cap, .int .i64 m] w fun e w' => e = .returned (.bool (shB nd m)) ∧ Below w.heap.size w w' := by
  have HS : Hid (StAt L w n nd a nas m) := hS
  have hm := hS.lt
  clear hS
  obtain ⟨b, off, rfl, _, hb, d0, d1, d2, d3, d4, d5, d6, d7⟩ := cells8 HS.out.at'.1 hm
  have hkn := HS.out.sm.kn
  by_cases c0 : (200 : Int) < (nd m).kn
  · have hv : shB nd m = false := by unfold shB; simp [c0]
    go_enter Tryz.func47, Tryz.ntmps47
    go_wp2_with fail
    go_ret
    exact ⟨ret_bool hv.symm, below_alloc _ _⟩
  go_enter Tryz.func47, Tryz.ntmps47
  go_wp2_with fail
  go_loopw [19] (fun i wr => ∃ (k : Nat), k ≤ (nd m).kn ∧ i = .int .i64 k ∧ Hid (∀ j, j < k → 0 ≤ (nd m).c j ∧ (nd m).c j < m) ∧ wr = w.alloc (.cells (nodeC (nd m) (nas m)) 48)) (fun i _ => (nd m).kn - (intOf i).toNat)
  case atStart => exact ⟨0, Nat.zero_le _, rfl, fun j hj => by omega, rfl⟩
  case round =>
    obtain ⟨k, hk, rfl, HK2, rfl⟩ := hrel
    by_cases hlt : k < (nd m).kn
    · obtain ⟨b', off', e0, _, hb', g0⟩ := cells1 ((HS.out.at'.alloc (.cells (nodeC (nd m) (nas m)) 48)).2 m hm).2 hlt
      rw [e0]
      have g1 : w.cell? ⟨b', off' + k, none⟩ = some (.int .i64 ((nd m).c k)) := by
        obtain ⟨b2, off2, e2, _, _, g2⟩ := cells1 (HS.out.at'.2 m hm).2 hlt
        rw [e0] at e2
        obtain ⟨rfl, rfl⟩ : b' = b2 ∧ off' = off2 := by simpa using e2
        exact g2
      have hb2 : b' < w.heap.size := cell_lt'' g1
      by_cases c1 : (nd m).c k < 0
      · have hv : shB nd m = false := by
          unfold shB
          rw [allB_no (k := k) (Nat.zero_le k) hlt (by simp [c1])]
          simp
        go_wp2_with fail
        go_ret
        exact ⟨by first | exact ret_bool hv.symm | rfl, below_alloc _ _⟩
      by_cases c2 : (m : Int) ≤ (nd m).c k
      · have hv : shB nd m = false := by
          unfold shB
          rw [allB_no (k := k) (Nat.zero_le k) hlt (by simp [c2])]
          simp
        go_wp2_with fail
        go_ret
        exact ⟨by first | exact ret_bool hv.symm | rfl, below_alloc _ _⟩
      · go_wp2_with fail
        go_roundw
        case rel => exact ⟨k + 1, by omega, by go_num, fun j h2 => by
          by_cases e : j = k
          · subst e; omega
          · exact HK2.out j (by omega), by first | rfl | trivial⟩
        case measure => simp [intOf]; omega
    · have hv : allB (fun i => !(decide ((nd m).c i < 0) || decide ((m : Int) ≤ (nd m).c i))) 0 (nd m).kn = true := allB_true.2 fun i h1 h2 => by
        have := HK2.out i (by omega)
        simp
        omega
      have HV : Hid (shB nd m = if stK (nd m).k then decide (1 ≤ (nd m).l) && decide ((nd m).l ≤ 100000) && stB nd m else (nd m).l == 0 && epB nd m) := by
        show shB nd m = _
        unfold shB
        rw [hv]
        simp
        omega
      clear hv
      cases hst : stK (nd m).k
      · go_wp2_with (first | (go_at_call 15; refine (l3stat_calls _ _).mono ?_; rw [hst]; rintro e w1 ⟨rfl, rfl⟩) | (go_at_call 82; refine (l3expression_calls L n nd _ cap nas m _ ⟨HS.out.at'.alloc _, hm, HS.out.sm⟩).mono ?_; rintro e w2 ⟨rfl, hb2⟩; replace hb2 := below_call (below_alloc _ _) hb2))
        all_goals go_ret
        all_goals refine ⟨ret_bool ?_, by first | exact hb2 | exact below_alloc _ _⟩
        all_goals rw [HV.out, hst]
        all_goals simp [*]
      · have HST : Hid (stK (nd m).k = true) := hst
        go_wp2_with (first | (go_at_call 15; refine (l3stat_calls _ _).mono ?_; rw [hst]; rintro e w1 ⟨rfl, rfl⟩) | (go_at_call 81; refine (l3statement_calls L n nd _ cap nas m _ ⟨HS.out.at'.alloc _, hm, HS.out.sm⟩ HST.out).mono ?_; rintro e w2 ⟨rfl, hb2⟩; replace hb2 := below_call (below_alloc _ _) hb2))
        all_goals go_ret
        all_goals refine ⟨ret_bool ?_, by first | exact hb2 | exact below_alloc _ _⟩
        all_goals rw [HV.out, hst]
        all_goals simp [*] <;> (intros; omega)
end Go.Proofs.YtcpjnddkibbddaaGreat

/-! What the form of a node says: plain. -/
namespace Go.Proofs.YtcpjnddkibbddaaGreat

theorem bare_rn {d : ND} {o n f s : Bool} {r : Int} (h : bareB d o n f s r = true) : (d.rn : Int) = r := by
  unfold bareB bareG at h
  simp only [Bool.and_eq_true, beq_iff_eq] at h
  exact h.2
theorem exs_kid {nd : Nat → ND} {m lo hi i : Nat} (h : exsB nd m lo hi = true) (h1 : lo ≤ i) (h2 : i < hi) : exK (kidK nd m i) = true := allB_true.1 h i h1 h2
theorem exK_two {k : Int} (h : exK k = true) : k ≠ 2 := by
  unfold exK at h
  simp at h
  omega

theorem sh_kids {nd : Nat → ND} {m : Nat} (h : shB nd m = true) : (nd m).kn ≤ 200 ∧ ∀ j, j < (nd m).kn → 0 ≤ (nd m).c j ∧ (nd m).c j < m := by
  unfold shB at h
  simp only [Bool.and_eq_true] at h
  obtain ⟨⟨h1, h2⟩, _⟩ := h
  refine ⟨by simp at h1; omega, fun j hj => ?_⟩
  have := allB_true.1 h2 j (Nat.zero_le _) hj
  simp at this
  omega
theorem kidK_eq {nd : Nat → ND} {m j : Nat} (h : ∀ j, j < (nd m).kn → 0 ≤ (nd m).c j ∧ (nd m).c j < m) (hj : j < (nd m).kn) : kidK nd m j = (nd ((nd m).c j).toNat).k := by
  unfold kidK
  rw [if_pos hj, if_pos (h j hj)]

/-- what is known of a node of good form -/
structure ShF (nd : Nat → ND) (m : Nat) : Prop where
  kids : ∀ j, j < (nd m).kn → 0 ≤ (nd m).c j ∧ (nd m).c j < m
  kn : (nd m).kn ≤ 200
  kind : (1 ≤ (nd m).k ∧ (nd m).k ≤ 14) ∨ (20 ≤ (nd m).k ∧ (nd m).k ≤ 38)
  one : (nd m).k = 26 ∨ (nd m).k = 27 ∨ (nd m).k = 36 ∨ (nd m).k = 7 → (nd m).rn = 1
  try2 : (nd m).k = 12 → (nd m).rn = 2
  refs : (nd m).rn ≠ 0 → (nd m).k = 2 ∨ (nd m).k = 7 ∨ (nd m).k = 8 ∨ (nd m).k = 12 ∨ (nd m).k = 26 ∨ (nd m).k = 27 ∨ (nd m).k = 36
  two : (nd m).k = 6 ∨ (nd m).k = 8 ∨ (nd m).k = 12 → (nd m).kn = 2
  four : (nd m).k = 7 → (nd m).kn = 4
  leaf : (nd m).k = 9 ∨ (nd m).k = 10 ∨ (nd m).k = 26 ∨ (nd m).k = 27 ∨ (nd m).k = 36 ∨ (nd m).k = 37 → (nd m).kn = 0
  lets : (nd m).k ≠ 1 → ∀ j, j < (nd m).kn → (nd ((nd m).c j).toNat).k ≠ 2

theorem blk_two {nd : Nat → ND} {m : Nat} (h : blkB nd m = true) {j : Nat} (hj : j + 1 = (nd m).kn) : kidK nd m j ≠ 2 := by
  unfold blkB at h
  simp only [Bool.and_eq_true, beq_iff_eq] at h
  have : (nd m).kn - 1 = j := by omega
  rw [this] at h
  omega

set_option maxHeartbeats 4000000 in
theorem sh_facts {nd : Nat → ND} {m : Nat} (h : shB nd m = true) : ShF nd m := by
  obtain ⟨hkn, hk⟩ := sh_kids h
  have hke : ∀ j, j < (nd m).kn → kidK nd m j = (nd ((nd m).c j).toNat).k := fun j hj => kidK_eq hk hj
  have h3 : (if stK (nd m).k then decide (1 ≤ (nd m).l) && decide ((nd m).l ≤ 100000) && stB nd m else (nd m).l == 0 && epB nd m) = true := by
    unfold shB at h
    rw [Bool.and_eq_true] at h
    exact h.2
  clear h
  by_cases hs : stK (nd m).k = true
  · rw [if_pos hs, Bool.and_eq_true] at h3
    have h := h3.2
    clear h3
    have hr : 1 ≤ (nd m).k ∧ (nd m).k ≤ 14 := by unfold stK at hs; simp at hs; exact hs
    unfold stB at h
    rcases (show (nd m).k = 1 ∨ (nd m).k = 2 ∨ (nd m).k = 3 ∨ (nd m).k = 4 ∨ (nd m).k = 5 ∨ (nd m).k = 6 ∨ (nd m).k = 7 ∨ (nd m).k = 8 ∨ (nd m).k = 9 ∨ (nd m).k = 10 ∨ (nd m).k = 11 ∨ (nd m).k = 12 ∨ (nd m).k = 13 ∨ (nd m).k = 14 by omega) with e | e | e | e | e | e | e | e | e | e | e | e | e | e <;> (simp only [e] at h; simp only [Int.reduceEq, if_true, if_false, Bool.and_eq_true, Bool.or_eq_true, or_false, or_true, beq_iff_eq] at h)
    · have b := bare_rn h.2
      exact ⟨hk, hkn, .inl hr, fun h => by omega, fun h => by omega, fun h => by omega, fun h => by omega, fun h => by omega, fun h => by omega, fun h => absurd e h⟩
    · exact ⟨hk, hkn, .inl hr, fun h => by omega, fun h => by omega, fun h => by omega, fun h => by omega, fun h => by omega, fun h => by omega, fun _ j hj => by rw [← hke j hj]; exact exK_two (exs_kid h.2 (Nat.zero_le _) hj)⟩
    · have b := bare_rn h.1.2
      refine ⟨hk, hkn, .inl hr, fun h => by omega, fun h => by omega, fun h => by omega, fun h => by omega, fun h => by omega, fun h => by omega, fun _ j hj => ?_⟩
      rw [← hke j hj]
      by_cases hj2 : j < (nd m).n.toNat
      · have := allB_true.1 h.1.1.2 j (Nat.zero_le _) hj2
        unfold tgK at this
        simp at this
        omega
      · exact exK_two (exs_kid h.2 (by omega) hj)
    · have b := bare_rn h.2
      refine ⟨hk, hkn, .inl hr, fun h => by omega, fun h => by omega, fun h => by omega, fun h => by omega, fun h => by omega, fun h => by omega, fun _ j hj => ?_⟩
      obtain rfl : j = 0 := by omega
      rw [← hke 0 hj]
      omega
    · have b := bare_rn h.2
      refine ⟨hk, hkn, .inl hr, fun h => by omega, fun h => by omega, fun h => by omega, fun h => by omega, fun h => by omega, fun h => by omega, fun _ j hj => ?_⟩
      rw [← hke j hj]
      have h0 := exK_two (exs_kid (i := 0) h.1.1.2 (Nat.zero_le _) (by omega))
      rcases (show j = 0 ∨ j = 1 ∨ j = 2 by omega) with rfl | rfl | rfl
      · exact h0
      · omega
      · omega
    · have b := bare_rn h.2
      refine ⟨hk, hkn, .inl hr, fun h => by omega, fun h => by omega, fun h => by omega, fun h => by omega, fun h => by omega, fun h => by omega, fun _ j hj => ?_⟩
      rw [← hke j hj]
      rcases (show j = 0 ∨ j + 1 = (nd m).kn by omega) with rfl | hj2
      · exact exK_two (exs_kid (i := 0) h.1.1.2 (Nat.zero_le _) (by omega))
      · exact blk_two h.1.2 hj2
    · have b := bare_rn h.2
      refine ⟨hk, hkn, .inl hr, fun h => by omega, fun h => by omega, fun h => by omega, fun h => by omega, fun h => by omega, fun h => by omega, fun _ j hj => ?_⟩
      rw [← hke j hj]
      rcases (show j < 3 ∨ j + 1 = (nd m).kn by omega) with hj2 | hj2
      · exact exK_two (exs_kid h.1.1.2 (Nat.zero_le _) hj2)
      · exact blk_two h.1.2 hj2
    · have b := bare_rn h.2
      refine ⟨hk, hkn, .inl hr, fun h => by omega, fun h => by omega, fun h => by omega, fun h => by omega, fun h => by omega, fun h => by omega, fun _ j hj => ?_⟩
      rw [← hke j hj]
      rcases (show j = 0 ∨ j + 1 = (nd m).kn by omega) with rfl | hj2
      · exact exK_two (exs_kid (i := 0) h.1.1.2 (Nat.zero_le _) (by omega))
      · exact blk_two h.1.2 hj2
    · have b := bare_rn h.2
      exact ⟨hk, hkn, .inl hr, fun h => by omega, fun h => by omega, fun h => by omega, fun h => by omega, fun h => by omega, fun h => by omega, fun _ j hj => by omega⟩
    · have b := bare_rn h.2
      exact ⟨hk, hkn, .inl hr, fun h => by omega, fun h => by omega, fun h => by omega, fun h => by omega, fun h => by omega, fun h => by omega, fun _ j hj => by omega⟩
    · have b := bare_rn h.2
      exact ⟨hk, hkn, .inl hr, fun h => by omega, fun h => by omega, fun h => by omega, fun h => by omega, fun h => by omega, fun h => by omega, fun _ j hj => by rw [← hke j hj]; exact exK_two (exs_kid h.1 (Nat.zero_le _) hj)⟩
    · have b := bare_rn h.2
      refine ⟨hk, hkn, .inl hr, fun h => by omega, fun h => by omega, fun h => by omega, fun h => by omega, fun h => by omega, fun h => by omega, fun _ j hj => ?_⟩
      rw [← hke j hj]
      rcases (show j = 0 ∨ j + 1 = (nd m).kn by omega) with rfl | hj2
      · omega
      · exact blk_two h.1.2 hj2
    · have b := bare_rn h.2
      refine ⟨hk, hkn, .inl hr, fun h => by omega, fun h => by omega, fun h => by omega, fun h => by omega, fun h => by omega, fun h => by omega, fun _ j hj => ?_⟩
      rw [← hke j hj]
      exact exK_two (exs_kid h.1.2 (Nat.zero_le _) (by omega))
    · have b := bare_rn h.2
      refine ⟨hk, hkn, .inl hr, fun h => by omega, fun h => by omega, fun h => by omega, fun h => by omega, fun h => by omega, fun h => by omega, fun _ j hj => ?_⟩
      obtain rfl : j = 0 := by omega
      rw [← hke 0 hj]
      omega
  · rw [if_neg hs, Bool.and_eq_true] at h3
    have h := h3.2
    clear h3
    unfold epB at h
    have hr : 20 ≤ (nd m).k ∧ (nd m).k ≤ 38 := by
      refine Classical.byContradiction fun hn => ?_
      have hf : ∀ {p : Prop} [Decidable p] {a b : Bool}, ¬ p → (if p then a else b) = true → b = true := fun hp h => by rwa [if_neg hp] at h
      exact absurd (hf (by omega) (hf (by omega) (hf (by omega) (hf (by omega) (hf (by omega) (hf (by omega) (hf (by omega) (hf (by omega) (hf (by omega) (hf (by omega) (hf (by omega) (hf (by omega) h)))))))))))) (by decide)
    rcases (show (nd m).k = 20 ∨ (nd m).k = 21 ∨ (nd m).k = 22 ∨ (nd m).k = 23 ∨ (nd m).k = 24 ∨ (nd m).k = 25 ∨ (nd m).k = 26 ∨ (nd m).k = 27 ∨ (nd m).k = 28 ∨ (nd m).k = 29 ∨ (nd m).k = 30 ∨ (nd m).k = 31 ∨ (nd m).k = 32 ∨ (nd m).k = 33 ∨ (nd m).k = 34 ∨ (nd m).k = 35 ∨ (nd m).k = 36 ∨ (nd m).k = 37 ∨ (nd m).k = 38 by omega) with e | e | e | e | e | e | e | e | e | e | e | e | e | e | e | e | e | e | e <;> (simp only [e] at h; simp only [Int.reduceEq, if_true, if_false, Bool.and_eq_true, or_false, or_true, beq_iff_eq] at h)
    all_goals
      have b := bare_rn h.2
      refine ⟨hk, hkn, .inr hr, fun h => by omega, fun h => by omega, fun h => by omega, fun h => by omega, fun h => by omega, fun h => by omega, fun _ j hj => ?_⟩
    all_goals first
      | omega
      | (rw [← hke j hj]; exact exK_two (exs_kid h.1.2 (Nat.zero_le _) hj))
      | (rw [← hke j hj]; exact exK_two (exs_kid h.1.1.2 (Nat.zero_le _) hj))
      | (rw [← hke j hj]; exact exK_two (exs_kid h.1.1.1.2 (Nat.zero_le _) hj))
      | (obtain rfl : j = 0 := by omega
         rw [← hke 0 hj]
         have h1 := h.1.2
         unfold mnK at h1
         simp at h1
         omega)
end Go.Proofs.YtcpjnddkibbddaaGreat

/-! All faults of a unit: plain. -/
namespace Go.Proofs.YtcpjnddkibbddaaGreat

/-- faults of one code, at fns and nodes -/
def At2 (C U : Nat) (N : Nat → Nat) (bad : Nat → Nat → Prop) (y : FT) : Prop := y.c = C ∧ y.f < U ∧ y.n < N y.f ∧ bad y.f y.n
theorem At2.least {C U : Nat} {N : Nat → Nat} {bad : Nat → Nat → Prop} {f n : Nat} (hC : 0 < C) (h1 : ∀ f', f' < f → ∀ n', n' < N f' → ¬ bad f' n') (h2 : ∀ n', n' < n → ¬ bad f n') (hf : f < U) (hn : n < N f) (hb : bad f n) : Least (At2 C U N bad) ⟨C, f, n⟩ := by
  refine .inr ⟨hC, ⟨rfl, hf, hn, hb⟩, fun y hy => ?_⟩
  obtain ⟨a, b, c, d⟩ := hy
  refine .inr ⟨a.symm, ?_⟩
  by_cases e : y.f < f
  · exact absurd d (h1 _ e _ c)
  · by_cases e2 : y.f = f
    · refine .inr ⟨e2.symm, ?_⟩
      by_cases e3 : y.n < n
      · rw [e2] at d
        exact absurd d (h2 _ e3)
      · exact Nat.le_of_not_lt e3
    · exact .inl (by show f < y.f; omega)
theorem At2.none {C U : Nat} {N : Nat → Nat} {bad : Nat → Nat → Prop} (h : ∀ f, f < U → ∀ n, n < N f → ¬ bad f n) : ∀ y, ¬ At2 C U N bad y := fun _ hy => h _ hy.2.1 _ hy.2.2.1 hy.2.2.2
theorem At2.no {C U : Nat} {N : Nat → Nat} {bad : Nat → Nat → Prop} (h : ∀ y, ¬ At2 C U N bad y) : ∀ f, f < U → ∀ n, n < N f → ¬ bad f n := fun f hf n hn hb => h ⟨C, f, n⟩ ⟨rfl, hf, hn, hb⟩
theorem At2.congr {C U : Nat} {N : Nat → Nat} {bad bad' : Nat → Nat → Prop} (h : ∀ f, f < U → ∀ n, n < N f → (bad f n ↔ bad' f n)) (y : FT) : At2 C U N bad y ↔ At2 C U N bad' y :=
  ⟨fun k => ⟨k.1, k.2.1, k.2.2.1, (h _ k.2.1 _ k.2.2.1).1 k.2.2.2⟩, fun k => ⟨k.1, k.2.1, k.2.2.1, (h _ k.2.1 _ k.2.2.1).2 k.2.2.2⟩⟩

/-- the nodes of the first fns -/
def tot (fn : Nat → FD) : Nat → Nat
  | 0 => 0
  | k + 1 => tot fn k + (fn k).nn
def SizeOk (u : UD) : Prop := 1 ≤ u.n ∧ u.n ≤ 300 ∧ tot u.fn u.n ≤ 3000
def HeadOk (u : UD) (f : Nat) : Prop := ((u.fn f).nn ≠ 0 ∧ (u.fn f).vn ≤ 200 ∧ (u.fn f).un ≤ 200 ∧ 0 ≤ (u.fn f).params ∧ (u.fn f).params ≤ (u.fn f).vn)
  ∧ (0 ≤ (u.fn f).line ∧ (u.fn f).line ≤ 100000 ∧ (u.fn f).name.size ≤ 40 ∧ (f = 0 → (u.fn f).params = 0 ∧ (u.fn f).un = 0))
  ∧ ∀ i, i < (u.fn f).vn → 1 ≤ ((u.fn f).v i).size ∧ ((u.fn f).v i).size ≤ 40
def Bad1 (u : UD) : FT → Prop := At2 1 1 (fun _ => 1) (fun _ _ => ¬ SizeOk u)
def Bad2 (u : UD) : FT → Prop := At2 2 u.n (fun _ => 1) (fun f _ => ¬ HeadOk u f)
def Bad3 (u : UD) : FT → Prop := At2 3 u.n (fun f => (u.fn f).nn) (fun f n => shB (u.fn f).nd n = false)
def Bad4 (u : UD) : FT → Prop := At2 4 u.n (fun f => (u.fn f).nn) (fun f n => (n < (u.fn f).nn - 1 ∧ parP (u.fn f).nd (u.fn f).nn n < 0) ∨ (n = (u.fn f).nn - 1 ∧ ((u.fn f).nd n).k ≠ 1))
def Bad5 (u : UD) : FT → Prop := At2 5 u.n (fun f => (u.fn f).nn) (fun f n => 100 < depP (parP (u.fn f).nd (u.fn f).nn) (u.fn f).nn ((u.fn f).nn - 1) n)
/-- all of them -/
def BadU (u : UD) (y : FT) : Prop := Bad1 u y ∨ Bad2 u y ∨ Bad3 u y ∨ Bad4 u y ∨ Bad5 u y ∨ BadS u y

theorem At2.code {C U : Nat} {N : Nat → Nat} {bad : Nat → Nat → Prop} {y : FT} (h : At2 C U N bad y) : y.c = C := h.1
theorem badS_code {u : UD} {y : FT} (h : BadS u y) : 6 ≤ y.c := by
  rcases h with h | h | h | h <;> (have := h.1; omega)
/-- the size is right -/
structure U1 (u : UD) : Prop where
  size : SizeOk u
/-- fns and forms are right too -/
structure U3 (u : UD) : Prop where
  size : SizeOk u
  head : ∀ f, f < u.n → HeadOk u f
  form : ∀ f, f < u.n → ∀ n, n < (u.fn f).nn → shB (u.fn f).nd n = true
theorem U3.facts {u : UD} (h : U3 u) {f : Nat} (hf : f < u.n) {n : Nat} (hn : n < (u.fn f).nn) : ShF (u.fn f).nd n := sh_facts (h.form f hf n hn)
theorem U3.kids {u : UD} (h : U3 u) {f : Nat} (hf : f < u.n) : KidsIn (u.fn f).nd (u.fn f).nn := fun _ hi j hj => (h.facts hf hi).kids j hj
theorem tot_le (fn : Nat → FD) : ∀ (n k : Nat), k < n → (fn k).nn ≤ tot fn n
  | 0, _, h => by omega
  | n + 1, k, h => by
    unfold tot
    by_cases e : k = n
    · subst e; omega
    · have := tot_le fn n k (by omega); omega
theorem U3.nn {u : UD} (h : U3 u) {f : Nat} (hf : f < u.n) : (u.fn f).nn ≤ 3000 ∧ 0 < (u.fn f).nn := by
  have h1 := tot_le u.fn u.n f hf
  have h2 := h.size.2.2
  have h3 := (h.head f hf).1.1
  omega
/-- the trees are right too -/
structure U5 (u : UD) : Prop extends U3 u where
  tree : ∀ f, f < u.n → TreeOk (u.fn f).nd (u.fn f).nn
theorem u3_of {u : UD} (h1 : ∀ y, ¬ Bad1 u y) (h2 : ∀ y, ¬ Bad2 u y) (h3 : ∀ y, ¬ Bad3 u y) : U3 u := by
  refine ⟨?_, fun f hf => ?_, fun f hf n hn => ?_⟩
  · exact Classical.byContradiction fun h => At2.no h1 0 (by omega) 0 (by omega) h
  · exact Classical.byContradiction fun h => At2.no h2 f hf 0 (by omega) h
  · have := At2.no h3 f hf n hn
    simpa using this
theorem u5_of {u : UD} (h : U3 u) (h4 : ∀ y, ¬ Bad4 u y) : U5 u := by
  refine ⟨h, fun f hf => ⟨(h.nn hf).2, h.kids hf, fun x hx => ?_, ?_⟩⟩
  · have := At2.no h4 f hf x (by omega)
    omega
  · have hp := (h.nn hf).2
    have := At2.no h4 f hf ((u.fn f).nn - 1) (by omega)
    omega
end Go.Proofs.YtcpjnddkibbddaaGreat
