import Derived.Test.YtiidepafifodjabGreatPlain
/-! spec.l1zero, spec.ValueOk, laws.szValue, laws.toValue. -/
namespace Go.Proofs.YtiidepafifodjabGreat
open Go.RowKit
attribute [local go_sem] run_store_float

set_option maxHeartbeats 1000000 in
theorem z0_calls (k n : Int) (f : Nat) (s : ByteArray) (r : Int) (w : World) :
    Calls Tryz.prog 51 #[vOf k n f s r, .bool false, .bool false, .bool false, .bool false] w fun e w' => e = .returned (.bool (n == 0 && fz f && se s && r == 0)) ∧ Below w.heap.size w w' := by
  go_enter Tryz.func51, Tryz.ntmps51; go_wp2
  all_goals (go_ret; exact ⟨ret_bool (by simp_all [fz, se]), below_alloc _ _⟩)

set_option maxHeartbeats 1000000 in
theorem zn_calls (k n : Int) (f : Nat) (s : ByteArray) (r : Int) (w : World) :
    Calls Tryz.prog 51 #[vOf k n f s r, .bool true, .bool false, .bool false, .bool false] w fun e w' => e = .returned (.bool (fz f && se s && r == 0)) ∧ Below w.heap.size w w' := by
  go_enter Tryz.func51, Tryz.ntmps51; go_wp2
  all_goals (go_ret; exact ⟨ret_bool (by simp_all [fz, se]), below_alloc _ _⟩)

set_option maxHeartbeats 1000000 in
theorem zf_calls (k n : Int) (f : Nat) (s : ByteArray) (r : Int) (w : World) :
    Calls Tryz.prog 51 #[vOf k n f s r, .bool false, .bool true, .bool false, .bool false] w fun e w' => e = .returned (.bool (n == 0 && se s && r == 0)) ∧ Below w.heap.size w w' := by
  go_enter Tryz.func51, Tryz.ntmps51; go_wp2
  all_goals (go_ret; exact ⟨ret_bool (by simp_all [se]), below_alloc _ _⟩)

set_option maxHeartbeats 1000000 in
theorem zs_calls (k n : Int) (f : Nat) (s : ByteArray) (r : Int) (w : World) :
    Calls Tryz.prog 51 #[vOf k n f s r, .bool false, .bool false, .bool true, .bool false] w fun e w' => e = .returned (.bool (n == 0 && fz f && r == 0)) ∧ Below w.heap.size w w' := by
  go_enter Tryz.func51, Tryz.ntmps51; go_wp2
  all_goals (go_ret; exact ⟨ret_bool (by simp_all [fz]), below_alloc _ _⟩)

set_option maxHeartbeats 1000000 in
theorem zr_calls (k n : Int) (f : Nat) (s : ByteArray) (r : Int) (w : World) :
    Calls Tryz.prog 51 #[vOf k n f s r, .bool false, .bool false, .bool false, .bool true] w fun e w' => e = .returned (.bool (n == 0 && fz f && se s)) ∧ Below w.heap.size w w' := by
  go_enter Tryz.func51, Tryz.ntmps51; go_wp2
  all_goals (go_ret; exact ⟨ret_bool (by simp_all [fz, se]), below_alloc _ _⟩)

set_option maxHeartbeats 1000000 in
theorem specOk_calls (k n : Int) (f : Nat) (s : ByteArray) (r : Int) (w : World) :
    Calls Tryz.prog 21 #[vOf k n f s r] w fun e w' => e = .returned (.bool (okB k n f s r)) ∧ Below w.heap.size w w' := by
  by_cases c0 : k = 0
  · subst c0; go_enter Tryz.func21, Tryz.ntmps21
    go_wp2_with (go_at_call 51; refine (z0_calls _ _ _ _ _ _).mono ?_; rintro e w1 ⟨rfl, hb⟩; obtain ⟨hc, hf⟩ := bcell hb)
    all_goals (go_ret; exact ⟨ret_bool (by simp_all [okB, ueB, usB]), below_call (below_alloc _ _) hb⟩)
  by_cases c1 : k = 1
  · subst c1; go_enter Tryz.func21, Tryz.ntmps21
    go_wp2_with (go_at_call 51; refine (zn_calls _ _ _ _ _ _).mono ?_; rintro e w1 ⟨rfl, hb⟩; obtain ⟨hc, hf⟩ := bcell hb)
    all_goals (go_ret; exact ⟨ret_bool (by simp_all [okB, ueB, usB]), below_call (below_alloc _ _) hb⟩)
  by_cases c2 : k = 2
  · subst c2; go_enter Tryz.func21, Tryz.ntmps21
    go_wp2_with (go_at_call 51; refine (zn_calls _ _ _ _ _ _).mono ?_; rintro e w1 ⟨rfl, hb⟩; obtain ⟨hc, hf⟩ := bcell hb)
    all_goals (go_ret; exact ⟨ret_bool (by simp_all [okB, ueB, usB]), below_call (below_alloc _ _) hb⟩)
  by_cases c3 : k = 3
  · subst c3; go_enter Tryz.func21, Tryz.ntmps21
    go_wp2_with (go_at_call 51; refine (zf_calls _ _ _ _ _ _).mono ?_; rintro e w1 ⟨rfl, hb⟩; obtain ⟨hc, hf⟩ := bcell hb)
    all_goals (go_ret; exact ⟨ret_bool (by simp_all [okB, ueB, usB]), below_call (below_alloc _ _) hb⟩)
  by_cases c4 : k = 4
  · subst c4; go_enter Tryz.func21, Tryz.ntmps21
    go_wp2_with (go_at_call 51; refine (zs_calls _ _ _ _ _ _).mono ?_; rintro e w1 ⟨rfl, hb⟩; obtain ⟨hc, hf⟩ := bcell hb)
    all_goals (go_ret; exact ⟨ret_bool (by simp_all [okB, ueB, usB]), below_call (below_alloc _ _) hb⟩)
  by_cases c5 : k = 5
  · subst c5; go_enter Tryz.func21, Tryz.ntmps21
    go_wp2_with (go_at_call 51; refine (zr_calls _ _ _ _ _ _).mono ?_; rintro e w1 ⟨rfl, hb⟩; obtain ⟨hc, hf⟩ := bcell hb)
    all_goals (go_ret; exact ⟨ret_bool (by simp_all [okB, ueB, usB]), below_call (below_alloc _ _) hb⟩)
  by_cases c6 : k = 6
  · subst c6; go_enter Tryz.func21, Tryz.ntmps21
    go_wp2_with (go_at_call 51; refine (zr_calls _ _ _ _ _ _).mono ?_; rintro e w1 ⟨rfl, hb⟩; obtain ⟨hc, hf⟩ := bcell hb)
    all_goals (go_ret; exact ⟨ret_bool (by simp_all [okB, ueB, usB]), below_call (below_alloc _ _) hb⟩)
  by_cases c7 : k = 7
  · subst c7; go_enter Tryz.func21, Tryz.ntmps21
    go_wp2_with (go_at_call 51; refine (zr_calls _ _ _ _ _ _).mono ?_; rintro e w1 ⟨rfl, hb⟩; obtain ⟨hc, hf⟩ := bcell hb)
    all_goals (go_ret; exact ⟨ret_bool (by simp_all [okB, ueB, usB]), below_call (below_alloc _ _) hb⟩)
  by_cases c8 : k = 8
  · subst c8; go_enter Tryz.func21, Tryz.ntmps21
    go_wp2_with (go_at_call 51; refine (zn_calls _ _ _ _ _ _).mono ?_; rintro e w1 ⟨rfl, hb⟩; obtain ⟨hc, hf⟩ := bcell hb)
    all_goals (go_ret; exact ⟨ret_bool (by simp_all [okB, ueB, usB] <;> omega), below_call (below_alloc _ _) hb⟩)
  have e1 : okB k n f s r = false := by
    have a : usB k n s r = false := by
      unfold usB
      rw [if_neg (by omega), if_neg (by omega), if_neg (by omega), if_neg (by omega), if_neg (by omega), if_neg (by omega), if_neg (by omega)]
    simp [okB, a]
  rw [e1]; clear e1
  have a0 : (k == 0) = false := by simpa using c0
  have a1 : (k == 1) = false := by simpa using c1
  have a2 : (k == 2) = false := by simpa using c2
  have a3 : (k == 3) = false := by simpa using c3
  have a4 : (k == 4) = false := by simpa using c4
  have a5 : (k == 5) = false := by simpa using c5
  have a6 : (k == 6) = false := by simpa using c6
  have a7 : (k == 7) = false := by simpa using c7
  have a8 : (k == 8) = false := by simpa using c8
  clear c0 c1 c2 c3 c4 c5 c6 c7 c8
  go_enter Tryz.func21, Tryz.ntmps21
  go_wp2
  go_ret
  exact ⟨rfl, below_alloc _ _⟩

set_option maxHeartbeats 1000000 in
theorem sz_calls (k n : Int) (f : Nat) (s : ByteArray) (r : Int) (left : Int) (w : World) (h0 : 0 ≤ left) (h1 : left ≤ 1048576) (hs : s.size ≤ maxLen) :
    Calls Tryz.prog 27 #[vOf k n f s r, .int .i64 left] w fun e w' => e = .returned (.int .i64 (if left < s.size then -1 else left - s.size)) ∧ Below w.heap.size w w' := by
  unfold maxLen at hs
  by_cases h : left < s.size
  · rw [if_pos h]
    go_enter Tryz.func27, Tryz.ntmps27; go_wp2
    go_ret; exact ⟨rfl, below_alloc _ _⟩
  · rw [if_neg h]
    go_enter Tryz.func27, Tryz.ntmps27; go_wp2
    go_ret; exact ⟨rfl, below_alloc _ _⟩

set_option maxHeartbeats 1000000 in
theorem to_calls (k n : Int) (f : Nat) (s : ByteArray) (r : Int) (w : World) :
    Calls Tryz.prog 29 #[vOf k n f s r] w fun e w' => e = .returned (vOf k n f s r) ∧ Below w.heap.size w w' := by
  go_enter Tryz.func29, Tryz.ntmps29; go_wp2
  exact bodyPost_ret (v := vOf k n f s r) (by simp [results, Tryz.results29, go_sem]) rfl ⟨rfl, ((below_alloc _ _).alloc (by simp) _).alloc (by simp; omega) _⟩
end Go.Proofs.YtiidepafifodjabGreat
