import Derived.Test.YtiidepafifodjaaSmallB
import Derived.Test.YtiidepafifodjaaTruth
/-! impl.negate, impl.flip, impl.length. -/
namespace Go.Proofs.Ytiidepafifodjaa
open Go.RowKit
attribute [local go_sem] run_store_float unary_neg_float
attribute [local go_sem] ta_nil_absent ta_absent_absent ta_flag_absent ta_whole_absent ta_float_absent ta_word_absent ta_builtin_absent ta_made_absent ta_nil_flag ta_absent_flag ta_flag_flag ta_whole_flag ta_float_flag ta_word_flag ta_builtin_flag ta_made_flag ta_nil_whole ta_absent_whole ta_flag_whole ta_whole_whole ta_float_whole ta_word_whole ta_builtin_whole ta_made_whole ta_nil_float ta_absent_float ta_flag_float ta_whole_float ta_float_float ta_word_float ta_builtin_float ta_made_float ta_nil_word ta_absent_word ta_flag_word ta_whole_word ta_float_word ta_word_word ta_builtin_word ta_made_word

set_option maxRecDepth 100000 in
set_option maxHeartbeats 1000000 in
theorem negate_absent  (w : World) : Calls Try.prog 95 #[.iface 147 (.agg #[])] w fun e w' => e = .returned (gV 1 0 0 0 ⟨#[]⟩ 0) ∧ Below w.heap.size w w' := by
  go_enter Try.func95, Try.ntmps95
  go_wp2_with (go_at_call 61; refine (failed_calls _ _).mono ?_; rintro e w1 ⟨rfl, hb1⟩; obtain ⟨hc1, hf1⟩ := bcell hb1)
  exact bodyPost_ret (v := gV 1 0 0 0 ⟨#[]⟩ 0) (by simp [results, Try.results95, go_sem, hc1]) rfl ⟨rfl, ((((((below_call (below_alloc _ _) hb1).setCell (Nat.le_refl _) _).setCell (Nat.le_refl _) _).setCell (Nat.le_refl _) _).setCell (Nat.le_refl _) _).setCell (Nat.le_refl _) _).setCell (Nat.le_refl _) _⟩
set_option maxRecDepth 100000 in
set_option maxHeartbeats 1000000 in
theorem negate_flag (b : Bool) (w : World) : Calls Try.prog 95 #[.iface 106 (.bool b)] w fun e w' => e = .returned (gV 1 0 0 0 ⟨#[]⟩ 0) ∧ Below w.heap.size w w' := by
  go_enter Try.func95, Try.ntmps95
  go_wp2_with (go_at_call 61; refine (failed_calls _ _).mono ?_; rintro e w1 ⟨rfl, hb1⟩; obtain ⟨hc1, hf1⟩ := bcell hb1)
  exact bodyPost_ret (v := gV 1 0 0 0 ⟨#[]⟩ 0) (by simp [results, Try.results95, go_sem, hc1]) rfl ⟨rfl, ((((((below_call (below_alloc _ _) hb1).setCell (Nat.le_refl _) _).setCell (Nat.le_refl _) _).setCell (Nat.le_refl _) _).setCell (Nat.le_refl _) _).setCell (Nat.le_refl _) _).setCell (Nat.le_refl _) _⟩
set_option maxRecDepth 100000 in
set_option maxHeartbeats 1000000 in
theorem negate_whole (n : Int) (w : World) : Calls Try.prog 95 #[.iface 148 (.int .i64 n)] w fun e w' => e = .returned (gV 0 2 (wrap64 (-n)) 0 ⟨#[]⟩ 0) ∧ Below w.heap.size w w' := by
  go_enter Try.func95, Try.ntmps95
  go_wp2_with (go_at_call 65; refine (gives_whole _ _).mono ?_; rintro e w1 ⟨rfl, hb1⟩; obtain ⟨hc1, hf1⟩ := bcell hb1)
  exact bodyPost_ret (v := gV 0 2 (wrap64 (-n)) 0 ⟨#[]⟩ 0) (by simp [results, Try.results95, go_sem, hc1]) rfl ⟨rfl, ((((((below_call (below_alloc _ _) hb1).setCell (Nat.le_refl _) _).setCell (Nat.le_refl _) _).setCell (Nat.le_refl _) _).setCell (Nat.le_refl _) _).setCell (Nat.le_refl _) _).setCell (Nat.le_refl _) _⟩
set_option maxRecDepth 100000 in
set_option maxHeartbeats 1000000 in
theorem negate_float (f : Nat) (w : World) : Calls Try.prog 95 #[.iface 149 (.float .f64 f)] w fun e w' => e = .returned (gV 0 3 0 (Op.negFloat .f64 f) ⟨#[]⟩ 0) ∧ Below w.heap.size w w' := by
  go_enter Try.func95, Try.ntmps95
  go_wp2_with (go_at_call 65; refine (gives_float _ _).mono ?_; rintro e w1 ⟨rfl, hb1⟩; obtain ⟨hc1, hf1⟩ := bcell hb1)
  exact bodyPost_ret (v := gV 0 3 0 (Op.negFloat .f64 f) ⟨#[]⟩ 0) (by simp [results, Try.results95, go_sem, hc1]) rfl ⟨rfl, ((((((below_call (below_alloc _ _) hb1).setCell (Nat.le_refl _) _).setCell (Nat.le_refl _) _).setCell (Nat.le_refl _) _).setCell (Nat.le_refl _) _).setCell (Nat.le_refl _) _).setCell (Nat.le_refl _) _⟩
set_option maxRecDepth 100000 in
set_option maxHeartbeats 1000000 in
theorem negate_word (s : ByteArray) (w : World) : Calls Try.prog 95 #[.iface 150 (.string s)] w fun e w' => e = .returned (gV 1 0 0 0 ⟨#[]⟩ 0) ∧ Below w.heap.size w w' := by
  go_enter Try.func95, Try.ntmps95
  go_wp2_with (go_at_call 61; refine (failed_calls _ _).mono ?_; rintro e w1 ⟨rfl, hb1⟩; obtain ⟨hc1, hf1⟩ := bcell hb1)
  exact bodyPost_ret (v := gV 1 0 0 0 ⟨#[]⟩ 0) (by simp [results, Try.results95, go_sem, hc1]) rfl ⟨rfl, ((((((below_call (below_alloc _ _) hb1).setCell (Nat.le_refl _) _).setCell (Nat.le_refl _) _).setCell (Nat.le_refl _) _).setCell (Nat.le_refl _) _).setCell (Nat.le_refl _) _).setCell (Nat.le_refl _) _⟩
set_option maxRecDepth 100000 in
set_option maxHeartbeats 1000000 in
theorem negate_builtin (n : Int) (w : World) : Calls Try.prog 95 #[.iface 153 (.int .i64 n)] w fun e w' => e = .returned (gV 1 0 0 0 ⟨#[]⟩ 0) ∧ Below w.heap.size w w' := by
  go_enter Try.func95, Try.ntmps95
  go_wp2_with (go_at_call 61; refine (failed_calls _ _).mono ?_; rintro e w1 ⟨rfl, hb1⟩; obtain ⟨hc1, hf1⟩ := bcell hb1)
  exact bodyPost_ret (v := gV 1 0 0 0 ⟨#[]⟩ 0) (by simp [results, Try.results95, go_sem, hc1]) rfl ⟨rfl, ((((((below_call (below_alloc _ _) hb1).setCell (Nat.le_refl _) _).setCell (Nat.le_refl _) _).setCell (Nat.le_refl _) _).setCell (Nat.le_refl _) _).setCell (Nat.le_refl _) _).setCell (Nat.le_refl _) _⟩
set_option maxRecDepth 100000 in
set_option maxHeartbeats 1000000 in
theorem negate_made (k r : Int) (w : World) : Calls Try.prog 95 #[.iface 152 (.agg #[.int .i64 k, .int .i64 r])] w fun e w' => e = .returned (gV 1 0 0 0 ⟨#[]⟩ 0) ∧ Below w.heap.size w w' := by
  go_enter Try.func95, Try.ntmps95
  go_wp2_with (go_at_call 61; refine (failed_calls _ _).mono ?_; rintro e w1 ⟨rfl, hb1⟩; obtain ⟨hc1, hf1⟩ := bcell hb1)
  exact bodyPost_ret (v := gV 1 0 0 0 ⟨#[]⟩ 0) (by simp [results, Try.results95, go_sem, hc1]) rfl ⟨rfl, ((((((below_call (below_alloc _ _) hb1).setCell (Nat.le_refl _) _).setCell (Nat.le_refl _) _).setCell (Nat.le_refl _) _).setCell (Nat.le_refl _) _).setCell (Nat.le_refl _) _).setCell (Nat.le_refl _) _⟩
set_option maxRecDepth 100000 in
set_option maxHeartbeats 1000000 in
theorem flip_absent  (w : World) : Calls Try.prog 96 #[.iface 147 (.agg #[])] w fun e w' => e = .returned (gV 1 0 0 0 ⟨#[]⟩ 0) ∧ Below w.heap.size w w' := by
  go_enter Try.func96, Try.ntmps96
  go_wp2_with (go_at_call 61; refine (failed_calls _ _).mono ?_; rintro e w1 ⟨rfl, hb1⟩; obtain ⟨hc1, hf1⟩ := bcell hb1)
  exact bodyPost_ret (v := gV 1 0 0 0 ⟨#[]⟩ 0) (by simp [results, Try.results96, go_sem, hc1]) rfl ⟨rfl, ((((((below_call (below_alloc _ _) hb1).setCell (Nat.le_refl _) _).setCell (Nat.le_refl _) _).setCell (Nat.le_refl _) _).setCell (Nat.le_refl _) _).setCell (Nat.le_refl _) _).setCell (Nat.le_refl _) _⟩
set_option maxRecDepth 100000 in
set_option maxHeartbeats 1000000 in
theorem flip_flag (b : Bool) (w : World) : Calls Try.prog 96 #[.iface 106 (.bool b)] w fun e w' => e = .returned (gV 1 0 0 0 ⟨#[]⟩ 0) ∧ Below w.heap.size w w' := by
  go_enter Try.func96, Try.ntmps96
  go_wp2_with (go_at_call 61; refine (failed_calls _ _).mono ?_; rintro e w1 ⟨rfl, hb1⟩; obtain ⟨hc1, hf1⟩ := bcell hb1)
  exact bodyPost_ret (v := gV 1 0 0 0 ⟨#[]⟩ 0) (by simp [results, Try.results96, go_sem, hc1]) rfl ⟨rfl, ((((((below_call (below_alloc _ _) hb1).setCell (Nat.le_refl _) _).setCell (Nat.le_refl _) _).setCell (Nat.le_refl _) _).setCell (Nat.le_refl _) _).setCell (Nat.le_refl _) _).setCell (Nat.le_refl _) _⟩
set_option maxRecDepth 100000 in
set_option maxHeartbeats 1000000 in
theorem flip_whole (n : Int) (w : World) : Calls Try.prog 96 #[.iface 148 (.int .i64 n)] w fun e w' => e = .returned (gV 0 2 (bits .xor .i64 (-1) n) 0 ⟨#[]⟩ 0) ∧ Below w.heap.size w w' := by
  go_enter Try.func96, Try.ntmps96
  go_wp2_with (go_at_call 65; refine (gives_whole _ _).mono ?_; rintro e w1 ⟨rfl, hb1⟩; obtain ⟨hc1, hf1⟩ := bcell hb1)
  exact bodyPost_ret (v := gV 0 2 (bits .xor .i64 (-1) n) 0 ⟨#[]⟩ 0) (by simp [results, Try.results96, go_sem, hc1]) rfl ⟨rfl, ((((((below_call (below_alloc _ _) hb1).setCell (Nat.le_refl _) _).setCell (Nat.le_refl _) _).setCell (Nat.le_refl _) _).setCell (Nat.le_refl _) _).setCell (Nat.le_refl _) _).setCell (Nat.le_refl _) _⟩
set_option maxRecDepth 100000 in
set_option maxHeartbeats 1000000 in
theorem flip_float (f : Nat) (w : World) : Calls Try.prog 96 #[.iface 149 (.float .f64 f)] w fun e w' => e = .returned (gV 1 0 0 0 ⟨#[]⟩ 0) ∧ Below w.heap.size w w' := by
  go_enter Try.func96, Try.ntmps96
  go_wp2_with (go_at_call 61; refine (failed_calls _ _).mono ?_; rintro e w1 ⟨rfl, hb1⟩; obtain ⟨hc1, hf1⟩ := bcell hb1)
  exact bodyPost_ret (v := gV 1 0 0 0 ⟨#[]⟩ 0) (by simp [results, Try.results96, go_sem, hc1]) rfl ⟨rfl, ((((((below_call (below_alloc _ _) hb1).setCell (Nat.le_refl _) _).setCell (Nat.le_refl _) _).setCell (Nat.le_refl _) _).setCell (Nat.le_refl _) _).setCell (Nat.le_refl _) _).setCell (Nat.le_refl _) _⟩
set_option maxRecDepth 100000 in
set_option maxHeartbeats 1000000 in
theorem flip_word (s : ByteArray) (w : World) : Calls Try.prog 96 #[.iface 150 (.string s)] w fun e w' => e = .returned (gV 1 0 0 0 ⟨#[]⟩ 0) ∧ Below w.heap.size w w' := by
  go_enter Try.func96, Try.ntmps96
  go_wp2_with (go_at_call 61; refine (failed_calls _ _).mono ?_; rintro e w1 ⟨rfl, hb1⟩; obtain ⟨hc1, hf1⟩ := bcell hb1)
  exact bodyPost_ret (v := gV 1 0 0 0 ⟨#[]⟩ 0) (by simp [results, Try.results96, go_sem, hc1]) rfl ⟨rfl, ((((((below_call (below_alloc _ _) hb1).setCell (Nat.le_refl _) _).setCell (Nat.le_refl _) _).setCell (Nat.le_refl _) _).setCell (Nat.le_refl _) _).setCell (Nat.le_refl _) _).setCell (Nat.le_refl _) _⟩
set_option maxRecDepth 100000 in
set_option maxHeartbeats 1000000 in
theorem flip_builtin (n : Int) (w : World) : Calls Try.prog 96 #[.iface 153 (.int .i64 n)] w fun e w' => e = .returned (gV 1 0 0 0 ⟨#[]⟩ 0) ∧ Below w.heap.size w w' := by
  go_enter Try.func96, Try.ntmps96
  go_wp2_with (go_at_call 61; refine (failed_calls _ _).mono ?_; rintro e w1 ⟨rfl, hb1⟩; obtain ⟨hc1, hf1⟩ := bcell hb1)
  exact bodyPost_ret (v := gV 1 0 0 0 ⟨#[]⟩ 0) (by simp [results, Try.results96, go_sem, hc1]) rfl ⟨rfl, ((((((below_call (below_alloc _ _) hb1).setCell (Nat.le_refl _) _).setCell (Nat.le_refl _) _).setCell (Nat.le_refl _) _).setCell (Nat.le_refl _) _).setCell (Nat.le_refl _) _).setCell (Nat.le_refl _) _⟩
set_option maxRecDepth 100000 in
set_option maxHeartbeats 1000000 in
theorem flip_made (k r : Int) (w : World) : Calls Try.prog 96 #[.iface 152 (.agg #[.int .i64 k, .int .i64 r])] w fun e w' => e = .returned (gV 1 0 0 0 ⟨#[]⟩ 0) ∧ Below w.heap.size w w' := by
  go_enter Try.func96, Try.ntmps96
  go_wp2_with (go_at_call 61; refine (failed_calls _ _).mono ?_; rintro e w1 ⟨rfl, hb1⟩; obtain ⟨hc1, hf1⟩ := bcell hb1)
  exact bodyPost_ret (v := gV 1 0 0 0 ⟨#[]⟩ 0) (by simp [results, Try.results96, go_sem, hc1]) rfl ⟨rfl, ((((((below_call (below_alloc _ _) hb1).setCell (Nat.le_refl _) _).setCell (Nat.le_refl _) _).setCell (Nat.le_refl _) _).setCell (Nat.le_refl _) _).setCell (Nat.le_refl _) _).setCell (Nat.le_refl _) _⟩
set_option maxRecDepth 100000 in
set_option maxHeartbeats 1000000 in
theorem length_absent  (w : World) : Calls Try.prog 97 #[.iface 147 (.agg #[])] w fun e w' => e = .returned (gV 1 0 0 0 ⟨#[]⟩ 0) ∧ Below w.heap.size w w' := by
  go_enter Try.func97, Try.ntmps97
  go_wp2_with (go_at_call 61; refine (failed_calls _ _).mono ?_; rintro e w1 ⟨rfl, hb1⟩; obtain ⟨hc1, hf1⟩ := bcell hb1)
  exact bodyPost_ret (v := gV 1 0 0 0 ⟨#[]⟩ 0) (by simp [results, Try.results97, go_sem, hc1]) rfl ⟨rfl, ((((((below_call (below_alloc _ _) hb1).setCell (Nat.le_refl _) _).setCell (Nat.le_refl _) _).setCell (Nat.le_refl _) _).setCell (Nat.le_refl _) _).setCell (Nat.le_refl _) _).setCell (Nat.le_refl _) _⟩
set_option maxRecDepth 100000 in
set_option maxHeartbeats 1000000 in
theorem length_flag (b : Bool) (w : World) : Calls Try.prog 97 #[.iface 106 (.bool b)] w fun e w' => e = .returned (gV 1 0 0 0 ⟨#[]⟩ 0) ∧ Below w.heap.size w w' := by
  go_enter Try.func97, Try.ntmps97
  go_wp2_with (go_at_call 61; refine (failed_calls _ _).mono ?_; rintro e w1 ⟨rfl, hb1⟩; obtain ⟨hc1, hf1⟩ := bcell hb1)
  exact bodyPost_ret (v := gV 1 0 0 0 ⟨#[]⟩ 0) (by simp [results, Try.results97, go_sem, hc1]) rfl ⟨rfl, ((((((below_call (below_alloc _ _) hb1).setCell (Nat.le_refl _) _).setCell (Nat.le_refl _) _).setCell (Nat.le_refl _) _).setCell (Nat.le_refl _) _).setCell (Nat.le_refl _) _).setCell (Nat.le_refl _) _⟩
set_option maxRecDepth 100000 in
set_option maxHeartbeats 1000000 in
theorem length_whole (n : Int) (w : World) : Calls Try.prog 97 #[.iface 148 (.int .i64 n)] w fun e w' => e = .returned (gV 1 0 0 0 ⟨#[]⟩ 0) ∧ Below w.heap.size w w' := by
  go_enter Try.func97, Try.ntmps97
  go_wp2_with (go_at_call 61; refine (failed_calls _ _).mono ?_; rintro e w1 ⟨rfl, hb1⟩; obtain ⟨hc1, hf1⟩ := bcell hb1)
  exact bodyPost_ret (v := gV 1 0 0 0 ⟨#[]⟩ 0) (by simp [results, Try.results97, go_sem, hc1]) rfl ⟨rfl, ((((((below_call (below_alloc _ _) hb1).setCell (Nat.le_refl _) _).setCell (Nat.le_refl _) _).setCell (Nat.le_refl _) _).setCell (Nat.le_refl _) _).setCell (Nat.le_refl _) _).setCell (Nat.le_refl _) _⟩
set_option maxRecDepth 100000 in
set_option maxHeartbeats 1000000 in
theorem length_float (f : Nat) (w : World) : Calls Try.prog 97 #[.iface 149 (.float .f64 f)] w fun e w' => e = .returned (gV 1 0 0 0 ⟨#[]⟩ 0) ∧ Below w.heap.size w w' := by
  go_enter Try.func97, Try.ntmps97
  go_wp2_with (go_at_call 61; refine (failed_calls _ _).mono ?_; rintro e w1 ⟨rfl, hb1⟩; obtain ⟨hc1, hf1⟩ := bcell hb1)
  exact bodyPost_ret (v := gV 1 0 0 0 ⟨#[]⟩ 0) (by simp [results, Try.results97, go_sem, hc1]) rfl ⟨rfl, ((((((below_call (below_alloc _ _) hb1).setCell (Nat.le_refl _) _).setCell (Nat.le_refl _) _).setCell (Nat.le_refl _) _).setCell (Nat.le_refl _) _).setCell (Nat.le_refl _) _).setCell (Nat.le_refl _) _⟩
set_option maxRecDepth 100000 in
set_option maxHeartbeats 1000000 in
theorem length_word (s : ByteArray) (w : World) : Calls Try.prog 97 #[.iface 150 (.string s)] w fun e w' => e = .returned (gV 0 2 s.size 0 ⟨#[]⟩ 0) ∧ Below w.heap.size w w' := by
  go_enter Try.func97, Try.ntmps97
  go_wp2_with (go_at_call 65; refine (gives_whole _ _).mono ?_; rintro e w1 ⟨rfl, hb1⟩; obtain ⟨hc1, hf1⟩ := bcell hb1)
  exact bodyPost_ret (v := gV 0 2 s.size 0 ⟨#[]⟩ 0) (by simp [results, Try.results97, go_sem, hc1]) rfl ⟨rfl, ((((((below_call (below_alloc _ _) hb1).setCell (Nat.le_refl _) _).setCell (Nat.le_refl _) _).setCell (Nat.le_refl _) _).setCell (Nat.le_refl _) _).setCell (Nat.le_refl _) _).setCell (Nat.le_refl _) _⟩
set_option maxRecDepth 100000 in
set_option maxHeartbeats 1000000 in
theorem length_builtin (n : Int) (w : World) : Calls Try.prog 97 #[.iface 153 (.int .i64 n)] w fun e w' => e = .returned (gV 1 0 0 0 ⟨#[]⟩ 0) ∧ Below w.heap.size w w' := by
  go_enter Try.func97, Try.ntmps97
  go_wp2_with (go_at_call 61; refine (failed_calls _ _).mono ?_; rintro e w1 ⟨rfl, hb1⟩; obtain ⟨hc1, hf1⟩ := bcell hb1)
  exact bodyPost_ret (v := gV 1 0 0 0 ⟨#[]⟩ 0) (by simp [results, Try.results97, go_sem, hc1]) rfl ⟨rfl, ((((((below_call (below_alloc _ _) hb1).setCell (Nat.le_refl _) _).setCell (Nat.le_refl _) _).setCell (Nat.le_refl _) _).setCell (Nat.le_refl _) _).setCell (Nat.le_refl _) _).setCell (Nat.le_refl _) _⟩
set_option maxRecDepth 100000 in
set_option maxHeartbeats 1000000 in
theorem length_made (k r : Int) (w : World) : Calls Try.prog 97 #[.iface 152 (.agg #[.int .i64 k, .int .i64 r])] w fun e w' => e = .returned (gV 1 0 0 0 ⟨#[]⟩ 0) ∧ Below w.heap.size w w' := by
  go_enter Try.func97, Try.ntmps97
  go_wp2_with (go_at_call 61; refine (failed_calls _ _).mono ?_; rintro e w1 ⟨rfl, hb1⟩; obtain ⟨hc1, hf1⟩ := bcell hb1)
  exact bodyPost_ret (v := gV 1 0 0 0 ⟨#[]⟩ 0) (by simp [results, Try.results97, go_sem, hc1]) rfl ⟨rfl, ((((((below_call (below_alloc _ _) hb1).setCell (Nat.le_refl _) _).setCell (Nat.le_refl _) _).setCell (Nat.le_refl _) _).setCell (Nat.le_refl _) _).setCell (Nat.le_refl _) _).setCell (Nat.le_refl _) _⟩
end Go.Proofs.Ytiidepafifodjaa
