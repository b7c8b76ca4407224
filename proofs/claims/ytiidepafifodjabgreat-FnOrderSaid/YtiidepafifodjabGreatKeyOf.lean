import Derived.Test.YtiidepafifodjabGreatKey
/-! impl.keyOf, impl.Key. -/
namespace Go.Proofs.YtiidepafifodjabGreat
open Go.RowKit
attribute [local go_sem] run_store_float
attribute [local go_sem] ta_nil_absent ta_absent_absent ta_flag_absent ta_whole_absent ta_float_absent ta_word_absent ta_builtin_absent ta_made_absent ta_nil_flag ta_absent_flag ta_flag_flag ta_whole_flag ta_float_flag ta_word_flag ta_builtin_flag ta_made_flag ta_nil_whole ta_absent_whole ta_flag_whole ta_whole_whole ta_float_whole ta_word_whole ta_builtin_whole ta_made_whole ta_nil_float ta_absent_float ta_flag_float ta_whole_float ta_float_float ta_word_float ta_builtin_float ta_made_float ta_nil_word ta_absent_word ta_flag_word ta_whole_word ta_float_word ta_word_word ta_builtin_word ta_made_word

def kyG (k n : Int) (f : Nat) (s : ByteArray) (r : Int) : Value :=
  if okB k n f s r = false then gV 1 0 0 0 ⟨#[]⟩ 0 else if k = 0 then gV 5 0 0 0 ⟨#[]⟩ 0 else if k = 3 then fkG f else gV 0 k n f s r

set_option maxRecDepth 100000 in
set_option maxHeartbeats 2000000 in
theorem ky_nil (k n : Int) (f : Nat) (s : ByteArray) (r : Int) (w : World) : Calls Tryz.prog 64 #[vOf k n f s r, .nilIface] w fun e w' => e = .returned (gV 1 0 0 0 ⟨#[]⟩ 0) ∧ Below w.heap.size w w' := by
  go_enter Tryz.func64, Tryz.ntmps64
  go_wp2_with (go_at_call 57; refine (failed_calls _ _).mono ?_; rintro e w1 ⟨rfl, hb1⟩; obtain ⟨hc1, hf1⟩ := bcell hb1)
  exact bodyPost_ret (v := gV 1 0 0 0 ⟨#[]⟩ 0) (by simp [results, Tryz.results64, go_sem, hc1]) rfl ⟨rfl, set6 (below_call (below_alloc2 _ _ _) hb1) (Nat.le_add_right _ 1) _ _ _ _ _ _⟩

set_option maxRecDepth 100000 in
set_option maxHeartbeats 2000000 in
theorem ky_absent (k n : Int) (f : Nat) (s : ByteArray) (r : Int) (w : World) : Calls Tryz.prog 64 #[vOf k n f s r, .iface 139 (.agg #[])] w fun e w' => e = .returned (gV 5 0 0 0 ⟨#[]⟩ 0) ∧ Below w.heap.size w w' := by
  go_enter Tryz.func64, Tryz.ntmps64
  go_wp2_with (go_at_call 57; refine (failed_calls _ _).mono ?_; rintro e w1 ⟨rfl, hb1⟩; obtain ⟨hc1, hf1⟩ := bcell hb1)
  exact bodyPost_ret (v := gV 5 0 0 0 ⟨#[]⟩ 0) (by simp [results, Tryz.results64, go_sem, hc1]) rfl ⟨rfl, set6 (below_call (below_alloc3 _ _ _ _) hb1) (Nat.le_add_right _ 1) _ _ _ _ _ _⟩

set_option maxRecDepth 100000 in
set_option maxHeartbeats 2000000 in
theorem ky_float (k n : Int) (f : Nat) (s : ByteArray) (r : Int) (hf : f < 2 ^ 64) (w : World) : Calls Tryz.prog 64 #[vOf k n f s r, .iface 141 (.float .f64 f)] w fun e w' => e = .returned (fkG f) ∧ Below w.heap.size w w' := by
  obtain ⟨a, b, c, d, e0⟩ : ∃ a b c d, fkG f = gV a b c d ⟨#[]⟩ 0 := by unfold fkG; (repeat' split) <;> exact ⟨_, _, _, _, rfl⟩
  have hN : Hid (∀ w, Calls Tryz.prog 114 #[.float .f64 f] w fun e w' => e = .returned (gV a b c d ⟨#[]⟩ 0) ∧ Below w.heap.size w w') := by
    intro w; rw [← e0]; exact fk_calls f hf w
  rw [e0]
  clear e0 hf
  go_enter Tryz.func64, Tryz.ntmps64
  go_wp2_with (go_at_call 114; refine (hN.out _).mono ?_; rintro e w1 ⟨rfl, hb1⟩; obtain ⟨hc1, hf1⟩ := bcell hb1)
  exact bodyPost_ret (v := gV a b c d ⟨#[]⟩ 0) (by simp [results, Tryz.results64, go_sem, hc1]) rfl ⟨rfl, set6 (below_call (below_alloc2 _ _ _) hb1) (Nat.le_add_right _ 1) _ _ _ _ _ _⟩

set_option maxRecDepth 100000 in
set_option maxHeartbeats 2000000 in
theorem ky_flag (k n : Int) (f : Nat) (s : ByteArray) (r : Int) (b : Bool) (w : World) : Calls Tryz.prog 64 #[vOf k n f s r, .iface 90 (.bool b)] w fun e w' => e = .returned (gV 0 k n f s r) ∧ Below w.heap.size w w' := by
  go_enter Tryz.func64, Tryz.ntmps64
  go_wp2
  exact bodyPost_ret (v := gV 0 k n f s r) (by simp [results, Tryz.results64, go_sem]) rfl ⟨rfl, below_alloc2 _ _ _⟩

set_option maxRecDepth 100000 in
set_option maxHeartbeats 2000000 in
theorem ky_whole (k n : Int) (f : Nat) (s : ByteArray) (r : Int) (m : Int) (w : World) : Calls Tryz.prog 64 #[vOf k n f s r, .iface 140 (.int .i64 m)] w fun e w' => e = .returned (gV 0 k n f s r) ∧ Below w.heap.size w w' := by
  go_enter Tryz.func64, Tryz.ntmps64
  go_wp2
  exact bodyPost_ret (v := gV 0 k n f s r) (by simp [results, Tryz.results64, go_sem]) rfl ⟨rfl, below_alloc2 _ _ _⟩

set_option maxRecDepth 100000 in
set_option maxHeartbeats 2000000 in
theorem ky_word (k n : Int) (f : Nat) (s : ByteArray) (r : Int) (t : ByteArray) (w : World) : Calls Tryz.prog 64 #[vOf k n f s r, .iface 142 (.string t)] w fun e w' => e = .returned (gV 0 k n f s r) ∧ Below w.heap.size w w' := by
  go_enter Tryz.func64, Tryz.ntmps64
  go_wp2
  exact bodyPost_ret (v := gV 0 k n f s r) (by simp [results, Tryz.results64, go_sem]) rfl ⟨rfl, below_alloc2 _ _ _⟩

set_option maxRecDepth 100000 in
set_option maxHeartbeats 2000000 in
theorem ky_builtin (k n : Int) (f : Nat) (s : ByteArray) (r : Int) (m : Int) (w : World) : Calls Tryz.prog 64 #[vOf k n f s r, .iface 145 (.int .i64 m)] w fun e w' => e = .returned (gV 0 k n f s r) ∧ Below w.heap.size w w' := by
  go_enter Tryz.func64, Tryz.ntmps64
  go_wp2
  exact bodyPost_ret (v := gV 0 k n f s r) (by simp [results, Tryz.results64, go_sem]) rfl ⟨rfl, below_alloc2 _ _ _⟩

set_option maxRecDepth 100000 in
set_option maxHeartbeats 2000000 in
theorem ky_made (k n : Int) (f : Nat) (s : ByteArray) (r : Int) (a m : Int) (w : World) : Calls Tryz.prog 64 #[vOf k n f s r, .iface 144 (.agg #[.int .i64 a, .int .i64 m])] w fun e w' => e = .returned (gV 0 k n f s r) ∧ Below w.heap.size w w' := by
  go_enter Tryz.func64, Tryz.ntmps64
  go_wp2
  exact bodyPost_ret (v := gV 0 k n f s r) (by simp [results, Tryz.results64, go_sem]) rfl ⟨rfl, below_alloc2 _ _ _⟩

theorem ky_calls (k n : Int) (f : Nat) (s : ByteArray) (r : Int) (hf : f < 2 ^ 64) (w : World) : Calls Tryz.prog 64 #[vOf k n f s r, thW k n f s r] w fun e w' => e = .returned (kyG k n f s r) ∧ Below w.heap.size w w' := by
  rcases th_cases k n f s r with ⟨h, e⟩ | ⟨h, c, e⟩ | ⟨h, c, _, e⟩ | ⟨h, c, e⟩ | ⟨h, c, e⟩ | ⟨h, c, _, e⟩ | ⟨h, c, _, _, e⟩ | ⟨h, c, _, e⟩
  · rw [e, show kyG k n f s r = gV 1 0 0 0 ⟨#[]⟩ 0 by simp [kyG, h]]; exact ky_nil k n f s r w
  · rw [e, show kyG k n f s r = gV 5 0 0 0 ⟨#[]⟩ 0 by unfold kyG; rw [if_neg (by rw [h]; decide), if_pos c]]; exact ky_absent k n f s r w
  · rw [e, show kyG k n f s r = gV 0 k n f s r by unfold kyG; rw [if_neg (by rw [h]; decide), if_neg (by omega), if_neg (by omega)]]; exact ky_flag k n f s r _ w
  · rw [e, show kyG k n f s r = gV 0 k n f s r by unfold kyG; rw [if_neg (by rw [h]; decide), if_neg (by omega), if_neg (by omega)]]; exact ky_whole k n f s r _ w
  · rw [e, show kyG k n f s r = fkG f by unfold kyG; rw [if_neg (by rw [h]; decide), if_neg (by omega), if_pos c]]; exact ky_float k n f s r hf w
  · rw [e, show kyG k n f s r = gV 0 k n f s r by unfold kyG; rw [if_neg (by rw [h]; decide), if_neg (by omega), if_neg (by omega)]]; exact ky_word k n f s r _ w
  · rw [e, show kyG k n f s r = gV 0 k n f s r by unfold kyG; rw [if_neg (by rw [h]; decide), if_neg (by omega), if_neg (by omega)]]; exact ky_builtin k n f s r _ w
  · rw [e, show kyG k n f s r = gV 0 k n f s r by unfold kyG; rw [if_neg (by rw [h]; decide), if_neg (by omega), if_neg (by omega)]]; exact ky_made k n f s r _ _ w

theorem kyG_form (k n : Int) (f : Nat) (s : ByteArray) (r : Int) : ∃ a b c d t u, kyG k n f s r = gV a b c d t u := by
  unfold kyG fkG
  (repeat' split) <;> exact ⟨_, _, _, _, _, _, rfl⟩

set_option maxRecDepth 100000 in
set_option maxHeartbeats 2000000 in
theorem implKey_calls (k n : Int) (f : Nat) (s : ByteArray) (r : Int) (hf : f < 2 ^ 64) (w : World) : Calls Tryz.prog 25 #[vOf k n f s r] w fun e w' => e = .returned (kyG k n f s r) ∧ Below w.heap.size w w' := by
  obtain ⟨a, b, c, d, t, u, e0⟩ := kyG_form k n f s r
  have hN : Hid (∀ w, Calls Tryz.prog 64 #[vOf k n f s r, thW k n f s r] w fun e w' => e = .returned (gV a b c d t u) ∧ Below w.heap.size w w') := by
    intro w; rw [← e0]; exact ky_calls k n f s r hf w
  rw [e0]
  clear e0 hf
  go_enter Tryz.func25, Tryz.ntmps25
  go_wp2_with fail
  go_region_with (first | (go_at_call 50; refine (th_calls _ _ _ _ _ _).mono ?_; rintro e w1 ⟨rfl, hb1⟩; obtain ⟨hc1, hf1⟩ := bcell hb1) | (go_at_call 64; refine (hN.out _).mono ?_; rintro e w2 ⟨rfl, hb2⟩; replace hb1 := below_call hb1 hb2; clear hb2 hc1 hf1; obtain ⟨hc1, hf1⟩ := bcell hb1))
  all_goals go_wp2
  all_goals exact bodyPost_ret (v := gV a b c d t u) (by simp [results, Tryz.results25, go_sem, hc1]) rfl ⟨rfl, set6 (below_call (by first | exact below_alloc2 _ _ _ | exact (below_alloc2 _ _ _).drew | exact (below_alloc2 _ _ _).drew.drew | exact (below_alloc2 _ _ _).drew.drew.drew | exact (below_alloc2 _ _ _).drew.drew.drew.drew) hb1) (Nat.le_add_right _ 1) _ _ _ _ _ _⟩
end Go.Proofs.YtiidepafifodjabGreat
