import Derived.Test.YtpgoaokgdffjfabValueOk
import Derived.Test.YtpgoaokgdffjfabAsserts
/-! FnExactTruth: the walk. -/
namespace Go.Proofs.Ytpgoaokgdffjfab
open Go.RowKit
attribute [local go_sem] ta_nil_absent ta_absent_absent ta_flag_absent ta_whole_absent ta_float_absent ta_word_absent ta_builtin_absent ta_made_absent ta_nil_flag ta_absent_flag ta_flag_flag ta_whole_flag ta_float_flag ta_word_flag ta_builtin_flag ta_made_flag ta_nil_whole ta_absent_whole ta_flag_whole ta_whole_whole ta_float_whole ta_word_whole ta_builtin_whole ta_made_whole ta_nil_float ta_absent_float ta_flag_float ta_whole_float ta_float_float ta_word_float ta_builtin_float ta_made_float ta_nil_word ta_absent_word ta_flag_word ta_whole_word ta_float_word ta_word_word ta_builtin_word ta_made_word

def trB (k n : Int) (f : Nat) (s : ByteArray) (r : Int) : Bool := okB k n f s r && !(k == 0) && (!(k == 1) || n == 1)

/-- the seven makes of a thing, and nothing -/
theorem th_cases (k n : Int) (f : Nat) (s : ByteArray) (r : Int) :
    (okB k n f s r = false ∧ thW k n f s r = .nilIface) ∨
    (okB k n f s r = true ∧ k = 0 ∧ thW k n f s r = .iface 60 (.agg #[])) ∨
    (okB k n f s r = true ∧ k = 1 ∧ (n = 0 ∨ n = 1) ∧ thW k n f s r = .iface 55 (.bool (n == 1))) ∨
    (okB k n f s r = true ∧ k = 2 ∧ thW k n f s r = .iface 61 (.int .i64 n)) ∨
    (okB k n f s r = true ∧ k = 3 ∧ thW k n f s r = .iface 62 (.float .f64 f)) ∨
    (okB k n f s r = true ∧ k = 4 ∧ s.size ≤ 4000 ∧ thW k n f s r = .iface 63 (.string s)) ∨
    (okB k n f s r = true ∧ k = 8 ∧ 0 ≤ n ∧ n < 15 ∧ thW k n f s r = .iface 66 (.int .i64 n)) ∨
    (okB k n f s r = true ∧ (k = 5 ∨ k = 6 ∨ k = 7) ∧ 0 ≤ r ∧ thW k n f s r = .iface 65 (.agg #[.int .i64 k, .int .i64 r])) := by
  cases h : okB k n f s r
  · exact .inl ⟨rfl, by simp [thW, h]⟩
  · right
    have hu : usB k n s r = true := by simp only [okB, Bool.and_eq_true] at h; exact h.2
    have ht : thW k n f s r = thV k n f s r := by simp [thW, h]
    rw [ht]
    unfold usB at hu
    by_cases c0 : k = 0
    · exact .inl ⟨rfl, c0, by simp [thV, c0]⟩
    right
    rw [if_neg c0] at hu
    by_cases c1 : k = 1
    · rw [if_pos c1] at hu
      exact .inl ⟨rfl, c1, by simpa using hu, by simp [thV, c1]⟩
    right
    rw [if_neg c1] at hu
    by_cases c2 : k = 2
    · exact .inl ⟨rfl, c2, by simp [thV, c2]⟩
    right
    rw [if_neg c2] at hu
    by_cases c3 : k = 3
    · exact .inl ⟨rfl, c3, by simp [thV, c3]⟩
    right
    rw [if_neg c3] at hu
    by_cases c4 : k = 4
    · rw [if_pos c4] at hu
      exact .inl ⟨rfl, c4, by simp at hu; omega, by simp [thV, c4]⟩
    right
    rw [if_neg c4] at hu
    by_cases c8 : k = 8
    · rw [if_neg (by omega), if_pos c8] at hu
      simp at hu
      exact .inl ⟨rfl, c8, hu.1, hu.2, by simp [thV, c8]⟩
    right
    by_cases c5 : k = 5 ∨ k = 6 ∨ k = 7
    · rw [if_pos c5] at hu
      refine ⟨rfl, c5, by simpa using hu, ?_⟩
      unfold thV
      rw [if_neg c0, if_neg c1, if_neg c2, if_neg c3, if_neg c4, if_neg c8]
    · rw [if_neg c5, if_neg c8] at hu
      cases hu

set_option maxRecDepth 100000 in
set_option maxHeartbeats 1000000 in
theorem truthOf_at (w : World) : (Calls Try.prog 26 #[.nilIface] w fun e w' => e = .returned (.bool false) ∧ Below w.heap.size w w') ∧ (Calls Try.prog 26 #[.iface 60 (.agg #[])] w fun e w' => e = .returned (.bool false) ∧ Below w.heap.size w w') ∧
    (∀ b, Calls Try.prog 26 #[.iface 55 (.bool b)] w fun e w' => e = .returned (.bool b) ∧ Below w.heap.size w w') ∧ (∀ n, Calls Try.prog 26 #[.iface 61 (.int .i64 n)] w fun e w' => e = .returned (.bool true) ∧ Below w.heap.size w w') ∧
    (∀ f, Calls Try.prog 26 #[.iface 62 (.float .f64 f)] w fun e w' => e = .returned (.bool true) ∧ Below w.heap.size w w') ∧ (∀ s, Calls Try.prog 26 #[.iface 63 (.string s)] w fun e w' => e = .returned (.bool true) ∧ Below w.heap.size w w') ∧
    (∀ n, Calls Try.prog 26 #[.iface 66 (.int .i64 n)] w fun e w' => e = .returned (.bool true) ∧ Below w.heap.size w w') ∧ (∀ k r, Calls Try.prog 26 #[.iface 65 (.agg #[.int .i64 k, .int .i64 r])] w fun e w' => e = .returned (.bool true) ∧ Below w.heap.size w w') := by
  refine ⟨?_, ?_, fun b => ?_, fun n => ?_, fun f => ?_, fun s => ?_, fun n => ?_, fun k r => ?_⟩
  · go_enter Try.func26, Try.ntmps26; go_wp2; go_ret; exact ⟨rfl, Below.refl _ _⟩
  · go_enter Try.func26, Try.ntmps26; go_wp2; go_ret; exact ⟨rfl, Below.refl _ _⟩
  · go_enter Try.func26, Try.ntmps26; go_wp2; go_ret; exact ⟨rfl, Below.refl _ _⟩
  · go_enter Try.func26, Try.ntmps26; go_wp2; go_ret; exact ⟨rfl, Below.refl _ _⟩
  · go_enter Try.func26, Try.ntmps26; go_wp2; go_ret; exact ⟨rfl, Below.refl _ _⟩
  · go_enter Try.func26, Try.ntmps26; go_wp2; go_ret; exact ⟨rfl, Below.refl _ _⟩
  · go_enter Try.func26, Try.ntmps26; go_wp2; go_ret; exact ⟨rfl, Below.refl _ _⟩
  · go_enter Try.func26, Try.ntmps26; go_wp2; go_ret; exact ⟨rfl, Below.refl _ _⟩

theorem truthOf_calls (k n : Int) (f : Nat) (s : ByteArray) (r : Int) (w : World) :
    Calls Try.prog 26 #[thW k n f s r] w fun e w' => e = .returned (.bool (trB k n f s r)) ∧ Below w.heap.size w w' := by
  obtain ⟨g0, g1, g2, g3, g4, g5, g6, g7⟩ := truthOf_at w
  rcases th_cases k n f s r with ⟨h, e⟩ | ⟨h, c, e⟩ | ⟨h, c, c', e⟩ | ⟨h, c, e⟩ | ⟨h, c, e⟩ | ⟨h, c, _, e⟩ | ⟨h, c, _, _, e⟩ | ⟨h, c, _, e⟩
  · rw [e, show trB k n f s r = false by simp [trB, h]]; exact g0
  · rw [e, show trB k n f s r = false by simp [trB, c]]; exact g1
  · rw [e, show trB k n f s r = (n == 1) by subst c; simp [trB, h]]; exact g2 _
  · rw [e, show trB k n f s r = true by subst c; simp [trB, h]]; exact g3 _
  · rw [e, show trB k n f s r = true by subst c; simp [trB, h]]; exact g4 _
  · rw [e, show trB k n f s r = true by subst c; simp [trB, h]]; exact g5 _
  · rw [e, show trB k n f s r = true by subst c; simp [trB, h]]; exact g6 _
  · rw [e, show trB k n f s r = true by rcases c with c | c | c <;> subst c <;> simp [trB, h]]; exact g7 _ _

set_option maxRecDepth 100000 in
set_option maxHeartbeats 1000000 in
theorem implTruth_calls (k n : Int) (f : Nat) (s : ByteArray) (r : Int) (w : World) :
    Calls Try.prog 14 #[vOf k n f s r] w fun e w' => e = .returned (.bool (trB k n f s r)) ∧ Below w.heap.size w w' := by
  go_enter Try.func14, Try.ntmps14
  go_wp2_with (first | (go_at_call 25; refine (th_calls _ _ _ _ _ _).mono ?_; rintro e w1 ⟨rfl, hb1⟩; obtain ⟨hc1, hf1⟩ := bcell hb1) | (go_at_call 26; refine (truthOf_calls _ _ _ _ _ _).mono ?_; rintro e w2 ⟨rfl, hb2⟩; replace hb1 := below_call hb1 hb2; clear hb2 hc1 hf1; obtain ⟨hc1, hf1⟩ := bcell hb1))
  go_ret
  exact ⟨rfl, below_call (below_alloc _ _) hb1⟩

set_option maxRecDepth 100000 in
set_option maxHeartbeats 1000000 in
theorem specTruth_calls (k n : Int) (f : Nat) (s : ByteArray) (r : Int) (w : World) :
    Calls Try.prog 13 #[vOf k n f s r] w fun e w' => e = .returned (.bool (trB k n f s r)) ∧ Below w.heap.size w w' := by
  cases h : okB k n f s r
  · have e1 : trB k n f s r = false := by simp [trB, h]
    rw [e1]; clear e1
    go_enter Try.func13, Try.ntmps13
    go_wp2_with (go_at_call 10; refine (specOk_calls _ _ _ _ _ _).mono ?_; rintro e w1 ⟨rfl, hb1⟩; obtain ⟨hc1, hf1⟩ := bcell hb1)
    go_ret
    exact ⟨rfl, below_call (below_alloc _ _) hb1⟩
  · have e1 : trB k n f s r = (!(k == 0) && (!(k == 1) || n == 1)) := by simp [trB, h]
    rw [e1]; clear e1
    go_enter Try.func13, Try.ntmps13
    go_wp2_with (go_at_call 10; refine (specOk_calls _ _ _ _ _ _).mono ?_; rintro e w1 ⟨rfl, hb1⟩; obtain ⟨hc1, hf1⟩ := bcell hb1)
    all_goals (go_ret; exact ⟨ret_bool (by simp_all), below_call (below_alloc _ _) hb1⟩)

set_option maxRecDepth 100000 in
set_option maxHeartbeats 1000000 in
theorem truth_walk (k n : Int) (f : Nat) (s : ByteArray) (r : Int) (w : World) (hs : s.size ≤ maxLen) (_ : (Lit.int .i64 k).wf = true) (_ : (Lit.int .i64 n).wf = true) (_ : (Lit.float .f64 f).wf = true) (_ : (Lit.int .i64 r).wf = true) :
    Calls Try.prog 4 #[vOf k n f s r] w fun e w' => e = .returned (.bool true) ∧ Below w.heap.size w w' := by
  have hz : Hid (s.size ≤ maxLen) := hs
  clear hs
  by_cases h : (1048576 : Int) < s.size
  · go_enter Try.func4, Try.ntmps4
    go_wp2_with (go_at_call 9; refine (sz_calls _ _ _ _ _ _ _ (by omega) (by omega) hz.out).mono ?_; rw [if_pos h]; rintro e w1 ⟨rfl, hb⟩; obtain ⟨hc, hf⟩ := bcell hb)
    go_ret
    exact ⟨rfl, below_call (below_alloc _ _) hb⟩
  · go_enter Try.func4, Try.ntmps4
    go_wp2_with (first | (go_at_call 9; refine (sz_calls _ _ _ _ _ _ _ (by omega) (by omega) hz.out).mono ?_; rw [if_neg h]; rintro e w1 ⟨rfl, hb1⟩; obtain ⟨hc1, hf1⟩ := bcell hb1) | (go_at_call 11; refine (to_calls _ _ _ _ _ _).mono ?_; rintro e w2 ⟨rfl, hb2⟩; replace hb1 := below_call hb1 hb2; clear hb2 hc1 hf1; obtain ⟨hc1, hf1⟩ := bcell hb1) | (go_at_call 13; refine (specTruth_calls _ _ _ _ _ _).mono ?_; rintro e w2 ⟨rfl, hb2⟩; replace hb1 := below_call hb1 hb2; clear hb2 hc1 hf1; obtain ⟨hc1, hf1⟩ := bcell hb1) | (go_at_call 14; refine (implTruth_calls _ _ _ _ _ _).mono ?_; rintro e w2 ⟨rfl, hb2⟩; replace hb1 := below_call hb1 hb2; clear hb2 hc1 hf1; obtain ⟨hc1, hf1⟩ := bcell hb1))
    go_ret
    exact ⟨rfl, below_call (below_alloc _ _) hb1⟩
end Go.Proofs.Ytpgoaokgdffjfab
