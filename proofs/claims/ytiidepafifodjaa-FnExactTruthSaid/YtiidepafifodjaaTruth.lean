import Derived.Test.YtiidepafifodjaaValueOk
import Derived.Test.YtiidepafifodjaaCases
import Derived.Test.YtiidepafifodjaaAsserts
/-! FnExactTruth: the walk. -/
namespace Go.Proofs.Ytiidepafifodjaa
open Go.RowKit
attribute [local go_sem] ta_nil_absent ta_absent_absent ta_flag_absent ta_whole_absent ta_float_absent ta_word_absent ta_builtin_absent ta_made_absent ta_nil_flag ta_absent_flag ta_flag_flag ta_whole_flag ta_float_flag ta_word_flag ta_builtin_flag ta_made_flag ta_nil_whole ta_absent_whole ta_flag_whole ta_whole_whole ta_float_whole ta_word_whole ta_builtin_whole ta_made_whole ta_nil_float ta_absent_float ta_flag_float ta_whole_float ta_float_float ta_word_float ta_builtin_float ta_made_float ta_nil_word ta_absent_word ta_flag_word ta_whole_word ta_float_word ta_word_word ta_builtin_word ta_made_word

def trB (k n : Int) (f : Nat) (s : ByteArray) (r : Int) : Bool := okB k n f s r && !(k == 0) && (!(k == 1) || n == 1)

set_option maxRecDepth 100000 in
set_option maxHeartbeats 1000000 in
theorem truthOf_at (w : World) : (Calls Try.prog 85 #[.nilIface] w fun e w' => e = .returned (.bool false) ∧ Below w.heap.size w w') ∧ (Calls Try.prog 85 #[.iface 147 (.agg #[])] w fun e w' => e = .returned (.bool false) ∧ Below w.heap.size w w') ∧
    (∀ b, Calls Try.prog 85 #[.iface 106 (.bool b)] w fun e w' => e = .returned (.bool b) ∧ Below w.heap.size w w') ∧ (∀ n, Calls Try.prog 85 #[.iface 148 (.int .i64 n)] w fun e w' => e = .returned (.bool true) ∧ Below w.heap.size w w') ∧
    (∀ f, Calls Try.prog 85 #[.iface 149 (.float .f64 f)] w fun e w' => e = .returned (.bool true) ∧ Below w.heap.size w w') ∧ (∀ s, Calls Try.prog 85 #[.iface 150 (.string s)] w fun e w' => e = .returned (.bool true) ∧ Below w.heap.size w w') ∧
    (∀ n, Calls Try.prog 85 #[.iface 153 (.int .i64 n)] w fun e w' => e = .returned (.bool true) ∧ Below w.heap.size w w') ∧ (∀ k r, Calls Try.prog 85 #[.iface 152 (.agg #[.int .i64 k, .int .i64 r])] w fun e w' => e = .returned (.bool true) ∧ Below w.heap.size w w') := by
  refine ⟨?_, ?_, fun b => ?_, fun n => ?_, fun f => ?_, fun s => ?_, fun n => ?_, fun k r => ?_⟩
  · go_enter Try.func85, Try.ntmps85; go_wp2; go_ret; exact ⟨rfl, Below.refl _ _⟩
  · go_enter Try.func85, Try.ntmps85; go_wp2; go_ret; exact ⟨rfl, Below.refl _ _⟩
  · go_enter Try.func85, Try.ntmps85; go_wp2; go_ret; exact ⟨rfl, Below.refl _ _⟩
  · go_enter Try.func85, Try.ntmps85; go_wp2; go_ret; exact ⟨rfl, Below.refl _ _⟩
  · go_enter Try.func85, Try.ntmps85; go_wp2; go_ret; exact ⟨rfl, Below.refl _ _⟩
  · go_enter Try.func85, Try.ntmps85; go_wp2; go_ret; exact ⟨rfl, Below.refl _ _⟩
  · go_enter Try.func85, Try.ntmps85; go_wp2; go_ret; exact ⟨rfl, Below.refl _ _⟩
  · go_enter Try.func85, Try.ntmps85; go_wp2; go_ret; exact ⟨rfl, Below.refl _ _⟩

theorem truthOf_calls (k n : Int) (f : Nat) (s : ByteArray) (r : Int) (w : World) :
    Calls Try.prog 85 #[thW k n f s r] w fun e w' => e = .returned (.bool (trB k n f s r)) ∧ Below w.heap.size w w' := by
  obtain ⟨g0, g1, g2, g3, g4, g5, g6, g7⟩ := truthOf_at w
  rcases th_cases k n f s r with ⟨h, e⟩ | ⟨h, c, e⟩ | ⟨h, c, c', e⟩ | ⟨h, c, e⟩ | ⟨h, c, e⟩ | ⟨h, c, _, e⟩ | ⟨h, c, _, _, e⟩ | ⟨h, c, _, e⟩
  · rw [e, show trB k n f s r = false by simp [trB, h]]; exact g0
  · rw [e, show trB k n f s r = false by simp [trB, c]]; exact g1
  · rw [e, show trB k n f s r = (n == 1) by subst c; simp [trB, h]]; exact g2 _
  · rw [e, show trB k n f s r = true by subst c; simp [trB, h]]; exact g3 _
  · rw [e, show trB k n f s r = true by subst c; simp [trB, h]]; exact g4 _
  · rw [e, show trB k n f s r = true by subst c; simp [trB, h]]; exact g5 _
  · rw [e, show trB k n f s r = true by subst c; simp [trB, h]]; exact g6 _
  · rw [e, show trB k n f s r = true by rcases c with c | c | c <;> subst c <;> simp [trB, h]]; exact g7 _ _

set_option maxRecDepth 100000 in
set_option maxHeartbeats 1000000 in
theorem implTruth_calls (k n : Int) (f : Nat) (s : ByteArray) (r : Int) (w : World) :
    Calls Try.prog 39 #[vOf k n f s r] w fun e w' => e = .returned (.bool (trB k n f s r)) ∧ Below w.heap.size w w' := by
  go_enter Try.func39, Try.ntmps39
  go_wp2_with (first | (go_at_call 60; refine (th_calls _ _ _ _ _ _).mono ?_; rintro e w1 ⟨rfl, hb1⟩; obtain ⟨hc1, hf1⟩ := bcell hb1) | (go_at_call 85; refine (truthOf_calls _ _ _ _ _ _).mono ?_; rintro e w2 ⟨rfl, hb2⟩; replace hb1 := below_call hb1 hb2; clear hb2 hc1 hf1; obtain ⟨hc1, hf1⟩ := bcell hb1))
  go_ret
  exact ⟨rfl, below_call (below_alloc _ _) hb1⟩

set_option maxRecDepth 100000 in
set_option maxHeartbeats 1000000 in
theorem specTruth_calls (k n : Int) (f : Nat) (s : ByteArray) (r : Int) (w : World) :
    Calls Try.prog 38 #[vOf k n f s r] w fun e w' => e = .returned (.bool (trB k n f s r)) ∧ Below w.heap.size w w' := by
  cases h : okB k n f s r
  · have e1 : trB k n f s r = false := by simp [trB, h]
    rw [e1]; clear e1
    go_enter Try.func38, Try.ntmps38
    go_wp2_with (go_at_call 36; refine (specOk_calls _ _ _ _ _ _).mono ?_; rintro e w1 ⟨rfl, hb1⟩; obtain ⟨hc1, hf1⟩ := bcell hb1)
    go_ret
    exact ⟨rfl, below_call (below_alloc _ _) hb1⟩
  · have e1 : trB k n f s r = (!(k == 0) && (!(k == 1) || n == 1)) := by simp [trB, h]
    rw [e1]; clear e1
    go_enter Try.func38, Try.ntmps38
    go_wp2_with (go_at_call 36; refine (specOk_calls _ _ _ _ _ _).mono ?_; rintro e w1 ⟨rfl, hb1⟩; obtain ⟨hc1, hf1⟩ := bcell hb1)
    all_goals (go_ret; exact ⟨ret_bool (by simp_all), below_call (below_alloc _ _) hb1⟩)

set_option maxRecDepth 100000 in
set_option maxHeartbeats 1000000 in
theorem truth_walk (k n : Int) (f : Nat) (s : ByteArray) (r : Int) (w : World) (hs : s.size ≤ maxLen) (_ : (Lit.int .i64 k).wf = true) (_ : (Lit.int .i64 n).wf = true) (_ : (Lit.float .f64 f).wf = true) (_ : (Lit.int .i64 r).wf = true) :
    Calls Try.prog 8 #[vOf k n f s r] w fun e w' => e = .returned (.bool true) ∧ Below w.heap.size w w' := by
  have hz : Hid (s.size ≤ maxLen) := hs
  clear hs
  by_cases h : (1048576 : Int) < s.size
  · go_enter Try.func8, Try.ntmps8
    go_wp2_with (go_at_call 26; refine (sz_calls _ _ _ _ _ _ _ (by omega) (by omega) hz.out).mono ?_; rw [if_pos h]; rintro e w1 ⟨rfl, hb⟩; obtain ⟨hc, hf⟩ := bcell hb)
    go_ret
    exact ⟨rfl, below_call (below_alloc _ _) hb⟩
  · go_enter Try.func8, Try.ntmps8
    go_wp2_with (first | (go_at_call 26; refine (sz_calls _ _ _ _ _ _ _ (by omega) (by omega) hz.out).mono ?_; rw [if_neg h]; rintro e w1 ⟨rfl, hb1⟩; obtain ⟨hc1, hf1⟩ := bcell hb1) | (go_at_call 29; refine (to_calls _ _ _ _ _ _).mono ?_; rintro e w2 ⟨rfl, hb2⟩; replace hb1 := below_call hb1 hb2; clear hb2 hc1 hf1; obtain ⟨hc1, hf1⟩ := bcell hb1) | (go_at_call 38; refine (specTruth_calls _ _ _ _ _ _).mono ?_; rintro e w2 ⟨rfl, hb2⟩; replace hb1 := below_call hb1 hb2; clear hb2 hc1 hf1; obtain ⟨hc1, hf1⟩ := bcell hb1) | (go_at_call 39; refine (implTruth_calls _ _ _ _ _ _).mono ?_; rintro e w2 ⟨rfl, hb2⟩; replace hb1 := below_call hb1 hb2; clear hb2 hc1 hf1; obtain ⟨hc1, hf1⟩ := bcell hb1))
    go_ret
    exact ⟨rfl, below_call (below_alloc _ _) hb1⟩
end Go.Proofs.Ytiidepafifodjaa
