import Derived.Test.YtiidepafifodjaaUnary
/-! spec.Unary, FnExactUnary. -/
namespace Go.Proofs.Ytiidepafifodjaa
open Go.RowKit
attribute [local go_sem] run_store_float unary_neg_float

set_option maxRecDepth 100000 in
set_option maxHeartbeats 2000000 in
theorem su_no (op k n : Int) (f : Nat) (s : ByteArray) (r : Int) (w : World) (h : okB k n f s r = false) :
    Calls Try.prog 44 #[.int .i64 op, vOf k n f s r] w fun e w' => e = .returned (unG op k n f s r) ∧ Below w.heap.size w w' := by
  rw [show unG op k n f s r = gV 1 0 0 0 ⟨#[]⟩ 0 by simp [unG, h]]
  go_enter Try.func44, Try.ntmps44
  go_wp2_with (first | (go_at_call 36; refine (specOk_calls _ _ _ _ _ _).mono ?_; rintro e w1 ⟨rfl, hb1⟩; obtain ⟨hc1, hf1⟩ := bcell hb1) | (go_at_call 90; refine (l1fail_calls _ _).mono ?_; rintro e w2 ⟨rfl, hb2⟩; replace hb1 := below_call hb1 hb2; clear hb2 hc1 hf1; obtain ⟨hc1, hf1⟩ := bcell hb1))
  exact bodyPost_ret (v := gV 1 0 0 0 ⟨#[]⟩ 0) (by simp [results, Try.results44, go_sem, hc1]) rfl ⟨rfl, set6 (below_call (below_alloc2 _ _ _) hb1) (Nat.le_add_right _ 1) _ _ _ _ _ _⟩

set_option maxRecDepth 100000 in
set_option maxHeartbeats 2000000 in
theorem su_nottrue (op k n : Int) (f : Nat) (s : ByteArray) (r : Int) (w : World) (h : okB k n f s r = true) (c : op = 21) (ht : trB k n f s r = true) :
    Calls Try.prog 44 #[.int .i64 op, vOf k n f s r] w fun e w' => e = .returned (unG op k n f s r) ∧ Below w.heap.size w w' := by
  subst c
  rw [show unG 21 k n f s r = gV 0 1 0 0 ⟨#[]⟩ 0 by simp [unG, h, ht, bG]]
  go_enter Try.func44, Try.ntmps44
  go_wp2_with (first | (go_at_call 36; refine (specOk_calls _ _ _ _ _ _).mono ?_; rintro e w1 ⟨rfl, hb1⟩; obtain ⟨hc1, hf1⟩ := bcell hb1) | (go_at_call 38; refine (specTruth_calls _ _ _ _ _ _).mono ?_; rintro e w2 ⟨rfl, hb2⟩; replace hb1 := below_call hb1 hb2; clear hb2 hc1 hf1; obtain ⟨hc1, hf1⟩ := bcell hb1) | (go_at_call 92; refine (l1boolF_calls _).mono ?_; rintro e w2 ⟨rfl, hb2⟩; replace hb1 := below_call hb1 hb2; clear hb2 hc1 hf1; obtain ⟨hc1, hf1⟩ := bcell hb1) | (go_at_call 91; refine (l1got_calls _ _ _ _ _ _).mono ?_; rintro e w2 ⟨rfl, hb2⟩; replace hb1 := below_call hb1 hb2; clear hb2 hc1 hf1; obtain ⟨hc1, hf1⟩ := bcell hb1))
  exact bodyPost_ret (v := gV 0 1 0 0 ⟨#[]⟩ 0) (by simp [results, Try.results44, go_sem, hc1]) rfl ⟨rfl, set6 (below_call (below_alloc2 _ _ _) hb1) (Nat.le_add_right _ 1) _ _ _ _ _ _⟩

set_option maxRecDepth 100000 in
set_option maxHeartbeats 2000000 in
theorem su_notfalse (op k n : Int) (f : Nat) (s : ByteArray) (r : Int) (w : World) (h : okB k n f s r = true) (c : op = 21) (ht : trB k n f s r = false) :
    Calls Try.prog 44 #[.int .i64 op, vOf k n f s r] w fun e w' => e = .returned (unG op k n f s r) ∧ Below w.heap.size w w' := by
  subst c
  rw [show unG 21 k n f s r = gV 0 1 1 0 ⟨#[]⟩ 0 by simp [unG, h, ht, bG]]
  go_enter Try.func44, Try.ntmps44
  go_wp2_with (first | (go_at_call 36; refine (specOk_calls _ _ _ _ _ _).mono ?_; rintro e w1 ⟨rfl, hb1⟩; obtain ⟨hc1, hf1⟩ := bcell hb1) | (go_at_call 38; refine (specTruth_calls _ _ _ _ _ _).mono ?_; rintro e w2 ⟨rfl, hb2⟩; replace hb1 := below_call hb1 hb2; clear hb2 hc1 hf1; obtain ⟨hc1, hf1⟩ := bcell hb1) | (go_at_call 92; refine (l1boolT_calls _).mono ?_; rintro e w2 ⟨rfl, hb2⟩; replace hb1 := below_call hb1 hb2; clear hb2 hc1 hf1; obtain ⟨hc1, hf1⟩ := bcell hb1) | (go_at_call 91; refine (l1got_calls _ _ _ _ _ _).mono ?_; rintro e w2 ⟨rfl, hb2⟩; replace hb1 := below_call hb1 hb2; clear hb2 hc1 hf1; obtain ⟨hc1, hf1⟩ := bcell hb1))
  exact bodyPost_ret (v := gV 0 1 1 0 ⟨#[]⟩ 0) (by simp [results, Try.results44, go_sem, hc1]) rfl ⟨rfl, set6 (below_call (below_alloc2 _ _ _) hb1) (Nat.le_add_right _ 1) _ _ _ _ _ _⟩

set_option maxRecDepth 100000 in
set_option maxHeartbeats 2000000 in
theorem su_negI (op k n : Int) (f : Nat) (s : ByteArray) (r : Int) (w : World) (h : okB k n f s r = true) (c : op = 19) (c' : k = 2) :
    Calls Try.prog 44 #[.int .i64 op, vOf k n f s r] w fun e w' => e = .returned (unG op k n f s r) ∧ Below w.heap.size w w' := by
  subst c c'
  rw [show unG 19 2 n f s r = gV 0 2 (wrap64 (-n)) 0 ⟨#[]⟩ 0 by simp [unG, h, ngG]]
  go_enter Try.func44, Try.ntmps44
  go_wp2_with (first | (go_at_call 36; refine (specOk_calls _ _ _ _ _ _).mono ?_; rintro e w1 ⟨rfl, hb1⟩; obtain ⟨hc1, hf1⟩ := bcell hb1) | (go_at_call 93; refine (l1int_calls _ _).mono ?_; rintro e w2 ⟨rfl, hb2⟩; replace hb1 := below_call hb1 hb2; clear hb2 hc1 hf1; obtain ⟨hc1, hf1⟩ := bcell hb1) | (go_at_call 91; refine (l1got_calls _ _ _ _ _ _).mono ?_; rintro e w2 ⟨rfl, hb2⟩; replace hb1 := below_call hb1 hb2; clear hb2 hc1 hf1; obtain ⟨hc1, hf1⟩ := bcell hb1))
  exact bodyPost_ret (v := gV 0 2 (wrap64 (-n)) 0 ⟨#[]⟩ 0) (by simp [results, Try.results44, go_sem, hc1]) rfl ⟨rfl, set6 (below_call (below_alloc2 _ _ _) hb1) (Nat.le_add_right _ 1) _ _ _ _ _ _⟩

set_option maxRecDepth 100000 in
set_option maxHeartbeats 2000000 in
theorem su_negF (op k n : Int) (f : Nat) (s : ByteArray) (r : Int) (w : World) (h : okB k n f s r = true) (c : op = 19) (c' : k = 3) :
    Calls Try.prog 44 #[.int .i64 op, vOf k n f s r] w fun e w' => e = .returned (unG op k n f s r) ∧ Below w.heap.size w w' := by
  subst c c'
  rw [show unG 19 3 n f s r = gV 0 3 0 (Op.negFloat .f64 f) ⟨#[]⟩ 0 by simp [unG, h, ngG]]
  go_enter Try.func44, Try.ntmps44
  go_wp2_with (first | (go_at_call 36; refine (specOk_calls _ _ _ _ _ _).mono ?_; rintro e w1 ⟨rfl, hb1⟩; obtain ⟨hc1, hf1⟩ := bcell hb1) | (go_at_call 94; refine (l1flt_calls _ _).mono ?_; rintro e w2 ⟨rfl, hb2⟩; replace hb1 := below_call hb1 hb2; clear hb2 hc1 hf1; obtain ⟨hc1, hf1⟩ := bcell hb1) | (go_at_call 91; refine (l1got_calls _ _ _ _ _ _).mono ?_; rintro e w2 ⟨rfl, hb2⟩; replace hb1 := below_call hb1 hb2; clear hb2 hc1 hf1; obtain ⟨hc1, hf1⟩ := bcell hb1))
  exact bodyPost_ret (v := gV 0 3 0 (Op.negFloat .f64 f) ⟨#[]⟩ 0) (by simp [results, Try.results44, go_sem, hc1]) rfl ⟨rfl, set6 (below_call (below_alloc2 _ _ _) hb1) (Nat.le_add_right _ 1) _ _ _ _ _ _⟩

set_option maxRecDepth 100000 in
set_option maxHeartbeats 2000000 in
theorem su_negN (op k n : Int) (f : Nat) (s : ByteArray) (r : Int) (w : World) (h : okB k n f s r = true) (c : op = 19) (c' : k ≠ 2) (c'' : k ≠ 3) :
    Calls Try.prog 44 #[.int .i64 op, vOf k n f s r] w fun e w' => e = .returned (unG op k n f s r) ∧ Below w.heap.size w w' := by
  subst c
  rw [show unG 19 k n f s r = gV 1 0 0 0 ⟨#[]⟩ 0 by simp [unG, h, ngG, c', c'']]
  have a1 : (k == 2) = false := by simpa using c'
  have a2 : (k == 3) = false := by simpa using c''
  go_enter Try.func44, Try.ntmps44
  go_wp2_with (first | (go_at_call 36; refine (specOk_calls _ _ _ _ _ _).mono ?_; rintro e w1 ⟨rfl, hb1⟩; obtain ⟨hc1, hf1⟩ := bcell hb1) | (go_at_call 90; refine (l1fail_calls _ _).mono ?_; rintro e w2 ⟨rfl, hb2⟩; replace hb1 := below_call hb1 hb2; clear hb2 hc1 hf1; obtain ⟨hc1, hf1⟩ := bcell hb1))
  exact bodyPost_ret (v := gV 1 0 0 0 ⟨#[]⟩ 0) (by simp [results, Try.results44, go_sem, hc1]) rfl ⟨rfl, set6 (below_call (below_alloc2 _ _ _) hb1) (Nat.le_add_right _ 1) _ _ _ _ _ _⟩

set_option maxRecDepth 100000 in
set_option maxHeartbeats 2000000 in
theorem su_flip (op k n : Int) (f : Nat) (s : ByteArray) (r : Int) (w : World) (h : okB k n f s r = true) (c : op = 20) (c' : k = 2) :
    Calls Try.prog 44 #[.int .i64 op, vOf k n f s r] w fun e w' => e = .returned (unG op k n f s r) ∧ Below w.heap.size w w' := by
  subst c c'
  rw [show unG 20 2 n f s r = gV 0 2 (bits .xor .i64 (-1) n) 0 ⟨#[]⟩ 0 by simp [unG, h, flG]]
  go_enter Try.func44, Try.ntmps44
  go_wp2_with (first | (go_at_call 36; refine (specOk_calls _ _ _ _ _ _).mono ?_; rintro e w1 ⟨rfl, hb1⟩; obtain ⟨hc1, hf1⟩ := bcell hb1) | (go_at_call 93; refine (l1int_calls _ _).mono ?_; rintro e w2 ⟨rfl, hb2⟩; replace hb1 := below_call hb1 hb2; clear hb2 hc1 hf1; obtain ⟨hc1, hf1⟩ := bcell hb1) | (go_at_call 91; refine (l1got_calls _ _ _ _ _ _).mono ?_; rintro e w2 ⟨rfl, hb2⟩; replace hb1 := below_call hb1 hb2; clear hb2 hc1 hf1; obtain ⟨hc1, hf1⟩ := bcell hb1))
  exact bodyPost_ret (v := gV 0 2 (bits .xor .i64 (-1) n) 0 ⟨#[]⟩ 0) (by simp [results, Try.results44, go_sem, hc1]) rfl ⟨rfl, set6 (below_call (below_alloc2 _ _ _) hb1) (Nat.le_add_right _ 1) _ _ _ _ _ _⟩

set_option maxRecDepth 100000 in
set_option maxHeartbeats 2000000 in
theorem su_flipN (op k n : Int) (f : Nat) (s : ByteArray) (r : Int) (w : World) (h : okB k n f s r = true) (c : op = 20) (c' : k ≠ 2) :
    Calls Try.prog 44 #[.int .i64 op, vOf k n f s r] w fun e w' => e = .returned (unG op k n f s r) ∧ Below w.heap.size w w' := by
  subst c
  rw [show unG 20 k n f s r = gV 1 0 0 0 ⟨#[]⟩ 0 by simp [unG, h, flG, c']]
  have a1 : (k == 2) = false := by simpa using c'
  go_enter Try.func44, Try.ntmps44
  go_wp2_with (first | (go_at_call 36; refine (specOk_calls _ _ _ _ _ _).mono ?_; rintro e w1 ⟨rfl, hb1⟩; obtain ⟨hc1, hf1⟩ := bcell hb1) | (go_at_call 90; refine (l1fail_calls _ _).mono ?_; rintro e w2 ⟨rfl, hb2⟩; replace hb1 := below_call hb1 hb2; clear hb2 hc1 hf1; obtain ⟨hc1, hf1⟩ := bcell hb1))
  exact bodyPost_ret (v := gV 1 0 0 0 ⟨#[]⟩ 0) (by simp [results, Try.results44, go_sem, hc1]) rfl ⟨rfl, set6 (below_call (below_alloc2 _ _ _) hb1) (Nat.le_add_right _ 1) _ _ _ _ _ _⟩

set_option maxRecDepth 100000 in
set_option maxHeartbeats 2000000 in
theorem su_len (op k n : Int) (f : Nat) (s : ByteArray) (r : Int) (w : World) (h : okB k n f s r = true) (c : op = 22) (c' : k = 4) :
    Calls Try.prog 44 #[.int .i64 op, vOf k n f s r] w fun e w' => e = .returned (unG op k n f s r) ∧ Below w.heap.size w w' := by
  subst c c'
  rw [show unG 22 4 n f s r = gV 0 2 s.size 0 ⟨#[]⟩ 0 by simp [unG, h, lnG]]
  go_enter Try.func44, Try.ntmps44
  go_wp2_with (first | (go_at_call 36; refine (specOk_calls _ _ _ _ _ _).mono ?_; rintro e w1 ⟨rfl, hb1⟩; obtain ⟨hc1, hf1⟩ := bcell hb1) | (go_at_call 93; refine (l1int_calls _ _).mono ?_; rintro e w2 ⟨rfl, hb2⟩; replace hb1 := below_call hb1 hb2; clear hb2 hc1 hf1; obtain ⟨hc1, hf1⟩ := bcell hb1) | (go_at_call 91; refine (l1got_calls _ _ _ _ _ _).mono ?_; rintro e w2 ⟨rfl, hb2⟩; replace hb1 := below_call hb1 hb2; clear hb2 hc1 hf1; obtain ⟨hc1, hf1⟩ := bcell hb1))
  exact bodyPost_ret (v := gV 0 2 s.size 0 ⟨#[]⟩ 0) (by simp [results, Try.results44, go_sem, hc1]) rfl ⟨rfl, set6 (below_call (below_alloc2 _ _ _) hb1) (Nat.le_add_right _ 1) _ _ _ _ _ _⟩

set_option maxRecDepth 100000 in
set_option maxHeartbeats 2000000 in
theorem su_lenN (op k n : Int) (f : Nat) (s : ByteArray) (r : Int) (w : World) (h : okB k n f s r = true) (c : op = 22) (c' : k ≠ 4) :
    Calls Try.prog 44 #[.int .i64 op, vOf k n f s r] w fun e w' => e = .returned (unG op k n f s r) ∧ Below w.heap.size w w' := by
  subst c
  rw [show unG 22 k n f s r = gV 1 0 0 0 ⟨#[]⟩ 0 by simp [unG, h, lnG, c']]
  have a1 : (k == 4) = false := by simpa using c'
  go_enter Try.func44, Try.ntmps44
  go_wp2_with (first | (go_at_call 36; refine (specOk_calls _ _ _ _ _ _).mono ?_; rintro e w1 ⟨rfl, hb1⟩; obtain ⟨hc1, hf1⟩ := bcell hb1) | (go_at_call 90; refine (l1fail_calls _ _).mono ?_; rintro e w2 ⟨rfl, hb2⟩; replace hb1 := below_call hb1 hb2; clear hb2 hc1 hf1; obtain ⟨hc1, hf1⟩ := bcell hb1))
  exact bodyPost_ret (v := gV 1 0 0 0 ⟨#[]⟩ 0) (by simp [results, Try.results44, go_sem, hc1]) rfl ⟨rfl, set6 (below_call (below_alloc2 _ _ _) hb1) (Nat.le_add_right _ 1) _ _ _ _ _ _⟩

set_option maxRecDepth 100000 in
set_option maxHeartbeats 2000000 in
theorem su_else (op k n : Int) (f : Nat) (s : ByteArray) (r : Int) (w : World) (h : okB k n f s r = true) (c1 : op ≠ 19) (c2 : op ≠ 20) (c3 : op ≠ 21) (c4 : op ≠ 22) :
    Calls Try.prog 44 #[.int .i64 op, vOf k n f s r] w fun e w' => e = .returned (unG op k n f s r) ∧ Below w.heap.size w w' := by
  rw [show unG op k n f s r = gV 1 0 0 0 ⟨#[]⟩ 0 by simp [unG, h, c1, c2, c3, c4]]
  have a1 : (op == 19) = false := by simpa using c1
  have a2 : (op == 20) = false := by simpa using c2
  have a3 : (op == 21) = false := by simpa using c3
  have a4 : (op == 22) = false := by simpa using c4
  go_enter Try.func44, Try.ntmps44
  go_wp2_with (first | (go_at_call 36; refine (specOk_calls _ _ _ _ _ _).mono ?_; rintro e w1 ⟨rfl, hb1⟩; obtain ⟨hc1, hf1⟩ := bcell hb1) | (go_at_call 90; refine (l1fail_calls _ _).mono ?_; rintro e w2 ⟨rfl, hb2⟩; replace hb1 := below_call hb1 hb2; clear hb2 hc1 hf1; obtain ⟨hc1, hf1⟩ := bcell hb1))
  exact bodyPost_ret (v := gV 1 0 0 0 ⟨#[]⟩ 0) (by simp [results, Try.results44, go_sem, hc1]) rfl ⟨rfl, set6 (below_call (below_alloc2 _ _ _) hb1) (Nat.le_add_right _ 1) _ _ _ _ _ _⟩

theorem specUnary_calls (op k n : Int) (f : Nat) (s : ByteArray) (r : Int) (w : World) :
    Calls Try.prog 44 #[.int .i64 op, vOf k n f s r] w fun e w' => e = .returned (unG op k n f s r) ∧ Below w.heap.size w w' := by
  cases h : okB k n f s r
  · exact su_no op k n f s r w h
  by_cases c1 : op = 19
  · by_cases c' : k = 2
    · exact su_negI op k n f s r w h c1 c'
    by_cases c'' : k = 3
    · exact su_negF op k n f s r w h c1 c''
    exact su_negN op k n f s r w h c1 c' c''
  by_cases c2 : op = 20
  · by_cases c' : k = 2
    · exact su_flip op k n f s r w h c2 c'
    exact su_flipN op k n f s r w h c2 c'
  by_cases c3 : op = 21
  · cases ht : trB k n f s r
    · exact su_notfalse op k n f s r w h c3 ht
    · exact su_nottrue op k n f s r w h c3 ht
  by_cases c4 : op = 22
  · by_cases c' : k = 4
    · exact su_len op k n f s r w h c4 c'
    exact su_lenN op k n f s r w h c4 c'
  exact su_else op k n f s r w h c1 c2 c3 c4

theorem negFloat_lt {f : Nat} (h : f < 2 ^ 64) : Op.negFloat .f64 f < 2 ^ 64 := Nat.xor_lt_two_pow h (by decide)

theorem unG_form (op k n : Int) (f : Nat) (s : ByteArray) (r : Int) (h : f < 2 ^ 64) : ∃ a b c d, unG op k n f s r = gV a b c d ⟨#[]⟩ 0 ∧ d < 2 ^ 64 := by
  unfold unG ngG flG lnG bG
  (repeat' split) <;> first | exact ⟨_, _, _, 0, rfl, by decide⟩ | exact ⟨_, _, _, _, rfl, negFloat_lt h⟩

set_option maxRecDepth 100000 in
set_option maxHeartbeats 2000000 in
theorem unary_walk (op k n : Int) (f : Nat) (s : ByteArray) (r : Int) (w : World) (hs : s.size ≤ maxLen) (hf : f < 2 ^ 64) :
    Calls Try.prog 11 #[.int .i64 op, vOf k n f s r] w fun e w' => e = .returned (.bool true) ∧ Below w.heap.size w w' := by
  have hz : Hid (s.size ≤ maxLen) := hs
  clear hs
  by_cases h : (1048576 : Int) < s.size
  · clear hf
    go_enter Try.func11, Try.ntmps11
    go_wp2_with (go_at_call 26; refine (sz_calls _ _ _ _ _ _ _ (by omega) (by omega) hz.out).mono ?_; rw [if_pos h]; rintro e w1 ⟨rfl, hb⟩; obtain ⟨hc, hf⟩ := bcell hb)
    go_ret
    exact ⟨rfl, below_call (below_alloc _ _) hb⟩
  · obtain ⟨a, b, c, d, e0, hd⟩ := unG_form op k n f s r hf
    have hI : Hid (∀ w, Calls Try.prog 45 #[.int .i64 op, vOf k n f s r] w fun e w' => e = .returned (gV a b c d ⟨#[]⟩ 0) ∧ Below w.heap.size w w') := by
      intro w; rw [← e0]; exact implUnary_calls op k n f s r w
    have hS : Hid (∀ w, Calls Try.prog 44 #[.int .i64 op, vOf k n f s r] w fun e w' => e = .returned (gV a b c d ⟨#[]⟩ 0) ∧ Below w.heap.size w w') := by
      intro w; rw [← e0]; exact specUnary_calls op k n f s r w
    have hO : Hid (oneF d d) := .inl ⟨rfl, hd⟩
    clear e0 hf hd
    have hB : Below w.heap.size w w := Below.refl _ _
    go_enter Try.func11, Try.ntmps11
    go_wp2_with (first | (go_at_call 26; refine (sz_calls _ _ _ _ _ _ _ (by omega) (by omega) hz.out).mono ?_; rw [if_neg h]; rintro e w2 ⟨rfl, hb2⟩; obtain ⟨hc2, hf2⟩ := bcell hb2; have hz2 := hb2.size; (try simp at hz2); (try have hz3 := Nat.lt_of_succ_le hz2); have hs2 : w.heap.size < w2.heap.size := (by omega); (first | replace hB := below_call hB hb2 | replace hB := below_call (below_a hB _) hb2 | replace hB := below_call (below_a (below_a hB _) _) hb2); clear hb2) | (go_at_call 29; refine (to_calls _ _ _ _ _ _).mono ?_; rintro e w2 ⟨rfl, hb2⟩; obtain ⟨hc2, hf2⟩ := bcell hb2; have hz2 := hb2.size; (try simp at hz2); (try have hz3 := Nat.lt_of_succ_le hz2); have hs2 : w.heap.size < w2.heap.size := (by omega); (first | replace hB := below_call hB hb2 | replace hB := below_call (below_a hB _) hb2 | replace hB := below_call (below_a (below_a hB _) _) hb2); clear hb2) | (go_at_call 44; refine (hS.out _).mono ?_; rintro e wS ⟨rfl, hb2⟩; obtain ⟨hc2, hf2⟩ := bcell hb2; have hz2 := hb2.size; (try simp at hz2); (try have hz3 := Nat.lt_of_succ_le hz2); have hs2 : w.heap.size < wS.heap.size := (by omega); (first | replace hB := below_call hB hb2 | replace hB := below_call (below_a hB _) hb2 | replace hB := below_call (below_a (below_a hB _) _) hb2); clear hb2) | (go_at_call 45; refine (hI.out _).mono ?_; rintro e wI ⟨rfl, hb2⟩; obtain ⟨hc2, hf2⟩ := bcell hb2; have hz2 := hb2.size; (try simp at hz2); (try have hz3 := Nat.lt_of_succ_le hz2); have hs2 : w.heap.size < wI.heap.size := (by omega); have hsI : wS.heap.size < wI.heap.size := (by omega); (first | replace hB := below_call hB hb2 | replace hB := below_call (below_a hB _) hb2 | replace hB := below_call (below_a (below_a hB _) _) hb2); clear hb2) | (go_at_call 46; refine (eqValued_calls _ _ _ _ _ _ _ hO.out _).mono ?_; rintro e w2 ⟨rfl, hb2⟩; obtain ⟨hc2, hf2⟩ := bcell hb2; have hz2 := hb2.size; (try simp at hz2); (try have hz3 := Nat.lt_of_succ_le hz2); have hs2 : w.heap.size < w2.heap.size := (by omega); (first | replace hB := below_call hB hb2 | replace hB := below_call (below_a hB _) hb2 | replace hB := below_call (below_a (below_a hB _) _) hb2); clear hb2))
    go_ret
    exact ⟨rfl, hB⟩
end Go.Proofs.Ytiidepafifodjaa
