import Derived.Test.YtiidepafifodjaaGives
import Derived.Test.YtiidepafifodjaaSet
import Derived.Test.YtiidepafifodjaaThing
import Derived.Deep.RegionWith
/-! impl.Binary at two ints: sums, products, quotients and rests, shifts. -/
namespace Go.Proofs.Ytiidepafifodjaa
open Go.RowKit
attribute [local go_sem] run_store_float
attribute [local go_sem] ta_nil_absent ta_absent_absent ta_flag_absent ta_whole_absent ta_float_absent ta_word_absent ta_builtin_absent ta_made_absent ta_nil_flag ta_absent_flag ta_flag_flag ta_whole_flag ta_float_flag ta_word_flag ta_builtin_flag ta_made_flag ta_nil_whole ta_absent_whole ta_flag_whole ta_whole_whole ta_float_whole ta_word_whole ta_builtin_whole ta_made_whole ta_nil_float ta_absent_float ta_flag_float ta_whole_float ta_float_float ta_word_float ta_builtin_float ta_made_float ta_nil_word ta_absent_word ta_flag_word ta_whole_word ta_float_word ta_word_word ta_builtin_word ta_made_word

/-- the quotient, as the program reckons it -/
def fdv (m n : Int) : Int := if m.tmod n ≠ 0 ∧ ¬ ((m < 0) ↔ (n < 0)) then wrap64 (wrap64 (m.tdiv n) - 1) else wrap64 (m.tdiv n)

set_option maxRecDepth 100000 in
set_option maxHeartbeats 4000000 in
theorem two_calls (m n : Int) (w : World) : Calls Try.prog 109 #[.iface 148 (.int .i64 m), .iface 148 (.int .i64 n)] w fun e w' => e = .returned (.tuple #[.int .i64 m, .int .i64 n, .bool true]) ∧ w' = w := by
  go_enter Try.func109, Try.ntmps109; go_wp2
  go_ret3; exact ⟨rfl, rfl⟩

set_option maxRecDepth 100000 in
set_option maxHeartbeats 4000000 in
theorem fd_calls (m n : Int) (hn : ¬ n = 0) (w : World) : Calls Try.prog 138 #[.int .i64 m, .int .i64 n] w fun e w' => e = .returned (.int .i64 (fdv m n)) ∧ w' = w := by
  by_cases h : m.tmod n = 0
  · rw [show fdv m n = wrap64 (m.tdiv n) by unfold fdv; rw [if_neg (by omega)]]
    go_enter Try.func138, Try.ntmps138; go_wp2
    go_ret; exact ⟨rfl, rfl⟩
  have h0 : (m.tmod n != 0) = true := by simpa using h
  by_cases hs : (m < 0) ↔ (n < 0)
  · rw [show fdv m n = wrap64 (m.tdiv n) by unfold fdv; rw [if_neg (fun c => c.2 hs)]]
    have hd : (decide (m < 0) == decide (n < 0)) = true := by rw [beq_iff_eq, decide_eq_decide]; exact hs
    clear hs
    go_enter Try.func138, Try.ntmps138; go_wp2
    go_ret; exact ⟨rfl, rfl⟩
  · rw [show fdv m n = wrap64 (wrap64 (m.tdiv n) - 1) by unfold fdv; rw [if_pos ⟨h, hs⟩]]
    have hd : (decide (m < 0) == decide (n < 0)) = false := by rw [Bool.eq_false_iff]; intro c; rw [beq_iff_eq, decide_eq_decide] at c; exact hs c
    clear hs
    go_enter Try.func138, Try.ntmps138; go_wp2
    go_ret; exact ⟨rfl, rfl⟩

set_option maxRecDepth 100000 in
set_option maxHeartbeats 4000000 in
theorem wa_add (m n : Int) (w : World) : Calls Try.prog 110 #[.int .i64 1, .int .i64 m, .int .i64 n] w fun e w' => e = .returned (gV 0 2 (wrap64 (m + n)) 0 ⟨#[]⟩ 0) ∧ Below w.heap.size w w' := by
  go_enter Try.func110, Try.ntmps110
  go_wp2_with (first | (go_at_call 65; refine (gives_whole _ _).mono ?_; rintro e w1 ⟨rfl, hb1⟩; obtain ⟨hc1, hf1⟩ := bcell hb1))
  exact bodyPost_ret (v := gV 0 2 (wrap64 (m + n)) 0 ⟨#[]⟩ 0) (by simp [results, Try.results110, go_sem, hc1]) rfl ⟨rfl, set6 (below_call (below_alloc _ _) hb1) (Nat.le_refl _) _ _ _ _ _ _⟩
set_option maxRecDepth 100000 in
set_option maxHeartbeats 4000000 in
theorem wa_sub (m n : Int) (w : World) : Calls Try.prog 110 #[.int .i64 2, .int .i64 m, .int .i64 n] w fun e w' => e = .returned (gV 0 2 (wrap64 (m - n)) 0 ⟨#[]⟩ 0) ∧ Below w.heap.size w w' := by
  go_enter Try.func110, Try.ntmps110
  go_wp2_with (first | (go_at_call 65; refine (gives_whole _ _).mono ?_; rintro e w1 ⟨rfl, hb1⟩; obtain ⟨hc1, hf1⟩ := bcell hb1))
  exact bodyPost_ret (v := gV 0 2 (wrap64 (m - n)) 0 ⟨#[]⟩ 0) (by simp [results, Try.results110, go_sem, hc1]) rfl ⟨rfl, set6 (below_call (below_alloc _ _) hb1) (Nat.le_refl _) _ _ _ _ _ _⟩
set_option maxRecDepth 100000 in
set_option maxHeartbeats 4000000 in
theorem wa_mul (m n : Int) (w : World) : Calls Try.prog 110 #[.int .i64 3, .int .i64 m, .int .i64 n] w fun e w' => e = .returned (gV 0 2 (wrap64 (m * n)) 0 ⟨#[]⟩ 0) ∧ Below w.heap.size w w' := by
  go_enter Try.func110, Try.ntmps110
  go_wp2_with (first | (go_at_call 65; refine (gives_whole _ _).mono ?_; rintro e w1 ⟨rfl, hb1⟩; obtain ⟨hc1, hf1⟩ := bcell hb1))
  exact bodyPost_ret (v := gV 0 2 (wrap64 (m * n)) 0 ⟨#[]⟩ 0) (by simp [results, Try.results110, go_sem, hc1]) rfl ⟨rfl, set6 (below_call (below_alloc _ _) hb1) (Nat.le_refl _) _ _ _ _ _ _⟩
set_option maxRecDepth 100000 in
set_option maxHeartbeats 4000000 in
theorem wa_idiv (m n : Int) (hn : ¬ n = 0) (w : World) : Calls Try.prog 110 #[.int .i64 5, .int .i64 m, .int .i64 n] w fun e w' => e = .returned (gV 0 2 (fdv m n) 0 ⟨#[]⟩ 0) ∧ Below w.heap.size w w' := by
  go_enter Try.func110, Try.ntmps110
  go_wp2_with (first | (go_at_call 138; refine (fd_calls _ _ hn _).mono ?_; rintro e w2 ⟨rfl, rfl⟩) | (go_at_call 65; refine (gives_whole _ _).mono ?_; rintro e w1 ⟨rfl, hb1⟩; obtain ⟨hc1, hf1⟩ := bcell hb1))
  exact bodyPost_ret (v := gV 0 2 (fdv m n) 0 ⟨#[]⟩ 0) (by simp [results, Try.results110, go_sem, hc1]) rfl ⟨rfl, set6 (below_call (below_alloc _ _) hb1) (Nat.le_refl _) _ _ _ _ _ _⟩
set_option maxRecDepth 100000 in
set_option maxHeartbeats 4000000 in
theorem wa_mod (m n : Int) (hn : ¬ n = 0) (w : World) : Calls Try.prog 110 #[.int .i64 6, .int .i64 m, .int .i64 n] w fun e w' => e = .returned (gV 0 2 (wrap64 (m - wrap64 (n * fdv m n))) 0 ⟨#[]⟩ 0) ∧ Below w.heap.size w w' := by
  go_enter Try.func110, Try.ntmps110
  go_wp2_with (first | (go_at_call 138; refine (fd_calls _ _ hn _).mono ?_; rintro e w2 ⟨rfl, rfl⟩) | (go_at_call 65; refine (gives_whole _ _).mono ?_; rintro e w1 ⟨rfl, hb1⟩; obtain ⟨hc1, hf1⟩ := bcell hb1))
  exact bodyPost_ret (v := gV 0 2 (wrap64 (m - wrap64 (n * fdv m n))) 0 ⟨#[]⟩ 0) (by simp [results, Try.results110, go_sem, hc1]) rfl ⟨rfl, set6 (below_call (below_alloc _ _) hb1) (Nat.le_refl _) _ _ _ _ _ _⟩
set_option maxRecDepth 100000 in
set_option maxHeartbeats 4000000 in
theorem wa_idiv0 (m n : Int) (hn : n = 0) (w : World) : Calls Try.prog 110 #[.int .i64 5, .int .i64 m, .int .i64 n] w fun e w' => e = .returned (gV 2 0 0 0 ⟨#[]⟩ 0) ∧ Below w.heap.size w w' := by
  subst hn
  go_enter Try.func110, Try.ntmps110
  go_wp2_with (first | (go_at_call 61; refine (failed_calls _ _).mono ?_; rintro e w1 ⟨rfl, hb1⟩; obtain ⟨hc1, hf1⟩ := bcell hb1))
  exact bodyPost_ret (v := gV 2 0 0 0 ⟨#[]⟩ 0) (by simp [results, Try.results110, go_sem, hc1]) rfl ⟨rfl, set6 (below_call (below_alloc _ _) hb1) (Nat.le_refl _) _ _ _ _ _ _⟩
set_option maxRecDepth 100000 in
set_option maxHeartbeats 4000000 in
theorem wa_mod0 (m n : Int) (hn : n = 0) (w : World) : Calls Try.prog 110 #[.int .i64 6, .int .i64 m, .int .i64 n] w fun e w' => e = .returned (gV 2 0 0 0 ⟨#[]⟩ 0) ∧ Below w.heap.size w w' := by
  subst hn
  go_enter Try.func110, Try.ntmps110
  go_wp2_with (first | (go_at_call 61; refine (failed_calls _ _).mono ?_; rintro e w1 ⟨rfl, hb1⟩; obtain ⟨hc1, hf1⟩ := bcell hb1))
  exact bodyPost_ret (v := gV 2 0 0 0 ⟨#[]⟩ 0) (by simp [results, Try.results110, go_sem, hc1]) rfl ⟨rfl, set6 (below_call (below_alloc _ _) hb1) (Nat.le_refl _) _ _ _ _ _ _⟩
set_option maxRecDepth 100000 in
set_option maxHeartbeats 4000000 in
theorem ar_add (m n : Int) (w : World) : Calls Try.prog 62 #[.int .i64 1, .iface 148 (.int .i64 m), .iface 148 (.int .i64 n)] w fun e w' => e = .returned (gV 0 2 (wrap64 (m + n)) 0 ⟨#[]⟩ 0) ∧ Below w.heap.size w w' := by
  have hA : Hid (∀ w, Calls Try.prog 110 #[.int .i64 1, .int .i64 m, .int .i64 n] w fun e w' => e = .returned (gV 0 2 (wrap64 (m + n)) 0 ⟨#[]⟩ 0) ∧ Below w.heap.size w w') := fun w => wa_add m n w
  skip
  go_enter Try.func62, Try.ntmps62
  go_wp2_with (first | (go_at_call 109; refine (two_calls _ _ _).mono ?_; rintro e w2 ⟨rfl, rfl⟩) | (go_at_call 110; refine (hA.out _).mono ?_; rintro e w1 ⟨rfl, hb1⟩; obtain ⟨hc1, hf1⟩ := bcell hb1))
  exact bodyPost_ret (v := gV 0 2 (wrap64 (m + n)) 0 ⟨#[]⟩ 0) (by simp [results, Try.results62, go_sem, hc1]) rfl ⟨rfl, set6 (below_call (below_alloc _ _) hb1) (Nat.le_refl _) _ _ _ _ _ _⟩
set_option maxRecDepth 100000 in
set_option maxHeartbeats 4000000 in
theorem ar_sub (m n : Int) (w : World) : Calls Try.prog 62 #[.int .i64 2, .iface 148 (.int .i64 m), .iface 148 (.int .i64 n)] w fun e w' => e = .returned (gV 0 2 (wrap64 (m - n)) 0 ⟨#[]⟩ 0) ∧ Below w.heap.size w w' := by
  have hA : Hid (∀ w, Calls Try.prog 110 #[.int .i64 2, .int .i64 m, .int .i64 n] w fun e w' => e = .returned (gV 0 2 (wrap64 (m - n)) 0 ⟨#[]⟩ 0) ∧ Below w.heap.size w w') := fun w => wa_sub m n w
  skip
  go_enter Try.func62, Try.ntmps62
  go_wp2_with (first | (go_at_call 109; refine (two_calls _ _ _).mono ?_; rintro e w2 ⟨rfl, rfl⟩) | (go_at_call 110; refine (hA.out _).mono ?_; rintro e w1 ⟨rfl, hb1⟩; obtain ⟨hc1, hf1⟩ := bcell hb1))
  exact bodyPost_ret (v := gV 0 2 (wrap64 (m - n)) 0 ⟨#[]⟩ 0) (by simp [results, Try.results62, go_sem, hc1]) rfl ⟨rfl, set6 (below_call (below_alloc _ _) hb1) (Nat.le_refl _) _ _ _ _ _ _⟩
set_option maxRecDepth 100000 in
set_option maxHeartbeats 4000000 in
theorem ar_mul (m n : Int) (w : World) : Calls Try.prog 62 #[.int .i64 3, .iface 148 (.int .i64 m), .iface 148 (.int .i64 n)] w fun e w' => e = .returned (gV 0 2 (wrap64 (m * n)) 0 ⟨#[]⟩ 0) ∧ Below w.heap.size w w' := by
  have hA : Hid (∀ w, Calls Try.prog 110 #[.int .i64 3, .int .i64 m, .int .i64 n] w fun e w' => e = .returned (gV 0 2 (wrap64 (m * n)) 0 ⟨#[]⟩ 0) ∧ Below w.heap.size w w') := fun w => wa_mul m n w
  skip
  go_enter Try.func62, Try.ntmps62
  go_wp2_with (first | (go_at_call 109; refine (two_calls _ _ _).mono ?_; rintro e w2 ⟨rfl, rfl⟩) | (go_at_call 110; refine (hA.out _).mono ?_; rintro e w1 ⟨rfl, hb1⟩; obtain ⟨hc1, hf1⟩ := bcell hb1))
  exact bodyPost_ret (v := gV 0 2 (wrap64 (m * n)) 0 ⟨#[]⟩ 0) (by simp [results, Try.results62, go_sem, hc1]) rfl ⟨rfl, set6 (below_call (below_alloc _ _) hb1) (Nat.le_refl _) _ _ _ _ _ _⟩
set_option maxRecDepth 100000 in
set_option maxHeartbeats 4000000 in
theorem ar_idiv (m n : Int) (hn : ¬ n = 0) (w : World) : Calls Try.prog 62 #[.int .i64 5, .iface 148 (.int .i64 m), .iface 148 (.int .i64 n)] w fun e w' => e = .returned (gV 0 2 (fdv m n) 0 ⟨#[]⟩ 0) ∧ Below w.heap.size w w' := by
  have hA : Hid (∀ w, Calls Try.prog 110 #[.int .i64 5, .int .i64 m, .int .i64 n] w fun e w' => e = .returned (gV 0 2 (fdv m n) 0 ⟨#[]⟩ 0) ∧ Below w.heap.size w w') := fun w => wa_idiv m n hn w
  clear hn
  go_enter Try.func62, Try.ntmps62
  go_wp2_with (first | (go_at_call 109; refine (two_calls _ _ _).mono ?_; rintro e w2 ⟨rfl, rfl⟩) | (go_at_call 110; refine (hA.out _).mono ?_; rintro e w1 ⟨rfl, hb1⟩; obtain ⟨hc1, hf1⟩ := bcell hb1))
  exact bodyPost_ret (v := gV 0 2 (fdv m n) 0 ⟨#[]⟩ 0) (by simp [results, Try.results62, go_sem, hc1]) rfl ⟨rfl, set6 (below_call (below_alloc _ _) hb1) (Nat.le_refl _) _ _ _ _ _ _⟩
set_option maxRecDepth 100000 in
set_option maxHeartbeats 4000000 in
theorem ar_mod (m n : Int) (hn : ¬ n = 0) (w : World) : Calls Try.prog 62 #[.int .i64 6, .iface 148 (.int .i64 m), .iface 148 (.int .i64 n)] w fun e w' => e = .returned (gV 0 2 (wrap64 (m - wrap64 (n * fdv m n))) 0 ⟨#[]⟩ 0) ∧ Below w.heap.size w w' := by
  have hA : Hid (∀ w, Calls Try.prog 110 #[.int .i64 6, .int .i64 m, .int .i64 n] w fun e w' => e = .returned (gV 0 2 (wrap64 (m - wrap64 (n * fdv m n))) 0 ⟨#[]⟩ 0) ∧ Below w.heap.size w w') := fun w => wa_mod m n hn w
  clear hn
  go_enter Try.func62, Try.ntmps62
  go_wp2_with (first | (go_at_call 109; refine (two_calls _ _ _).mono ?_; rintro e w2 ⟨rfl, rfl⟩) | (go_at_call 110; refine (hA.out _).mono ?_; rintro e w1 ⟨rfl, hb1⟩; obtain ⟨hc1, hf1⟩ := bcell hb1))
  exact bodyPost_ret (v := gV 0 2 (wrap64 (m - wrap64 (n * fdv m n))) 0 ⟨#[]⟩ 0) (by simp [results, Try.results62, go_sem, hc1]) rfl ⟨rfl, set6 (below_call (below_alloc _ _) hb1) (Nat.le_refl _) _ _ _ _ _ _⟩
set_option maxRecDepth 100000 in
set_option maxHeartbeats 4000000 in
theorem ar_idiv0 (m n : Int) (hn : n = 0) (w : World) : Calls Try.prog 62 #[.int .i64 5, .iface 148 (.int .i64 m), .iface 148 (.int .i64 n)] w fun e w' => e = .returned (gV 2 0 0 0 ⟨#[]⟩ 0) ∧ Below w.heap.size w w' := by
  have hA : Hid (∀ w, Calls Try.prog 110 #[.int .i64 5, .int .i64 m, .int .i64 n] w fun e w' => e = .returned (gV 2 0 0 0 ⟨#[]⟩ 0) ∧ Below w.heap.size w w') := fun w => wa_idiv0 m n hn w
  clear hn
  go_enter Try.func62, Try.ntmps62
  go_wp2_with (first | (go_at_call 109; refine (two_calls _ _ _).mono ?_; rintro e w2 ⟨rfl, rfl⟩) | (go_at_call 110; refine (hA.out _).mono ?_; rintro e w1 ⟨rfl, hb1⟩; obtain ⟨hc1, hf1⟩ := bcell hb1))
  exact bodyPost_ret (v := gV 2 0 0 0 ⟨#[]⟩ 0) (by simp [results, Try.results62, go_sem, hc1]) rfl ⟨rfl, set6 (below_call (below_alloc _ _) hb1) (Nat.le_refl _) _ _ _ _ _ _⟩
set_option maxRecDepth 100000 in
set_option maxHeartbeats 4000000 in
theorem ar_mod0 (m n : Int) (hn : n = 0) (w : World) : Calls Try.prog 62 #[.int .i64 6, .iface 148 (.int .i64 m), .iface 148 (.int .i64 n)] w fun e w' => e = .returned (gV 2 0 0 0 ⟨#[]⟩ 0) ∧ Below w.heap.size w w' := by
  have hA : Hid (∀ w, Calls Try.prog 110 #[.int .i64 6, .int .i64 m, .int .i64 n] w fun e w' => e = .returned (gV 2 0 0 0 ⟨#[]⟩ 0) ∧ Below w.heap.size w w') := fun w => wa_mod0 m n hn w
  clear hn
  go_enter Try.func62, Try.ntmps62
  go_wp2_with (first | (go_at_call 109; refine (two_calls _ _ _).mono ?_; rintro e w2 ⟨rfl, rfl⟩) | (go_at_call 110; refine (hA.out _).mono ?_; rintro e w1 ⟨rfl, hb1⟩; obtain ⟨hc1, hf1⟩ := bcell hb1))
  exact bodyPost_ret (v := gV 2 0 0 0 ⟨#[]⟩ 0) (by simp [results, Try.results62, go_sem, hc1]) rfl ⟨rfl, set6 (below_call (below_alloc _ _) hb1) (Nat.le_refl _) _ _ _ _ _ _⟩
set_option maxRecDepth 100000 in
set_option maxHeartbeats 4000000 in
theorem bw_shl (m n : Int) (h0 : 0 ≤ n) (h1 : n ≤ 9223372036854775807) (w : World) : Calls Try.prog 63 #[.int .i64 10, .iface 148 (.int .i64 m), .iface 148 (.int .i64 n)] w fun e w' => e = .returned (gV 0 2 (wrap64 (m * 2 ^ min n.toNat 64)) 0 ⟨#[]⟩ 0) ∧ Below w.heap.size w w' := by
  go_enter Try.func63, Try.ntmps63
  go_wp2_with (first | (go_at_call 109; refine (two_calls _ _ _).mono ?_; rintro e w2 ⟨rfl, rfl⟩) | (go_at_call 65; refine (gives_whole _ _).mono ?_; rintro e w1 ⟨rfl, hb1⟩; obtain ⟨hc1, hf1⟩ := bcell hb1))
  exact bodyPost_ret (v := gV 0 2 (wrap64 (m * 2 ^ min n.toNat 64)) 0 ⟨#[]⟩ 0) (by simp [results, Try.results63, go_sem, hc1]) rfl ⟨rfl, set6 (below_call (below_alloc _ _) hb1) (Nat.le_refl _) _ _ _ _ _ _⟩
set_option maxRecDepth 100000 in
set_option maxHeartbeats 4000000 in
theorem bw_shr (m n : Int) (h0 : 0 ≤ n) (h1 : n ≤ 9223372036854775807) (w : World) : Calls Try.prog 63 #[.int .i64 11, .iface 148 (.int .i64 m), .iface 148 (.int .i64 n)] w fun e w' => e = .returned (gV 0 2 (wrap64 (IntKind.u64.wrap m / 2 ^ min n.toNat 64)) 0 ⟨#[]⟩ 0) ∧ Below w.heap.size w w' := by
  go_enter Try.func63, Try.ntmps63
  go_wp2_with (first | (go_at_call 109; refine (two_calls _ _ _).mono ?_; rintro e w2 ⟨rfl, rfl⟩) | (go_at_call 65; refine (gives_whole _ _).mono ?_; rintro e w1 ⟨rfl, hb1⟩; obtain ⟨hc1, hf1⟩ := bcell hb1))
  exact bodyPost_ret (v := gV 0 2 (wrap64 (IntKind.u64.wrap m / 2 ^ min n.toNat 64)) 0 ⟨#[]⟩ 0) (by simp [results, Try.results63, go_sem, hc1]) rfl ⟨rfl, set6 (below_call (below_alloc _ _) hb1) (Nat.le_refl _) _ _ _ _ _ _⟩
set_option maxRecDepth 100000 in
set_option maxHeartbeats 4000000 in
theorem bw_shlneg (m n : Int) (h0 : n < 0) (w : World) : Calls Try.prog 63 #[.int .i64 10, .iface 148 (.int .i64 m), .iface 148 (.int .i64 n)] w fun e w' => e = .returned (gV 3 0 0 0 ⟨#[]⟩ 0) ∧ Below w.heap.size w w' := by
  go_enter Try.func63, Try.ntmps63
  go_wp2_with (first | (go_at_call 109; refine (two_calls _ _ _).mono ?_; rintro e w2 ⟨rfl, rfl⟩) | (go_at_call 61; refine (failed_calls _ _).mono ?_; rintro e w1 ⟨rfl, hb1⟩; obtain ⟨hc1, hf1⟩ := bcell hb1))
  exact bodyPost_ret (v := gV 3 0 0 0 ⟨#[]⟩ 0) (by simp [results, Try.results63, go_sem, hc1]) rfl ⟨rfl, set6 (below_call (below_alloc _ _) hb1) (Nat.le_refl _) _ _ _ _ _ _⟩
set_option maxRecDepth 100000 in
set_option maxHeartbeats 4000000 in
theorem bw_shrneg (m n : Int) (h0 : n < 0) (w : World) : Calls Try.prog 63 #[.int .i64 11, .iface 148 (.int .i64 m), .iface 148 (.int .i64 n)] w fun e w' => e = .returned (gV 3 0 0 0 ⟨#[]⟩ 0) ∧ Below w.heap.size w w' := by
  go_enter Try.func63, Try.ntmps63
  go_wp2_with (first | (go_at_call 109; refine (two_calls _ _ _).mono ?_; rintro e w2 ⟨rfl, rfl⟩) | (go_at_call 61; refine (failed_calls _ _).mono ?_; rintro e w1 ⟨rfl, hb1⟩; obtain ⟨hc1, hf1⟩ := bcell hb1))
  exact bodyPost_ret (v := gV 3 0 0 0 ⟨#[]⟩ 0) (by simp [results, Try.results63, go_sem, hc1]) rfl ⟨rfl, set6 (below_call (below_alloc _ _) hb1) (Nat.le_refl _) _ _ _ _ _ _⟩

theorem okI (n : Int) : okB 2 n 0 ⟨#[]⟩ 0 = true := by
  have e : fz 0 = true := by unfold fz; rw [order00]; rfl
  have e2 : se ⟨#[]⟩ = true := by unfold se; rw [ByteArray.toList_eq]; rfl
  simp [okB, ueB, usB, e, e2]
theorem thI (n : Int) (w : World) : Calls Try.prog 60 #[vOf 2 n 0 ⟨#[]⟩ 0] w fun e w' => e = .returned (.iface 148 (.int .i64 n)) ∧ Below w.heap.size w w' := by
  have := th_calls 2 n 0 ⟨#[]⟩ 0 w
  rw [show thW 2 n 0 ⟨#[]⟩ 0 = .iface 148 (.int .i64 n) by simp [thW, thV, okI]] at this
  exact this

end Go.Proofs.Ytiidepafifodjaa
