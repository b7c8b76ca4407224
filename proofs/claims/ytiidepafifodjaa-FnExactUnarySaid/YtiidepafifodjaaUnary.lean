import Derived.Test.YtiidepafifodjaaUnOps
import Derived.Test.YtiidepafifodjaaSet
/-! impl.Unary, spec.Unary, FnExactUnary. -/
namespace Go.Proofs.Ytiidepafifodjaa
open Go.RowKit
attribute [local go_sem] run_store_float unary_neg_float

def ngG (k n : Int) (f : Nat) : Value := if k = 2 then gV 0 2 (wrap64 (-n)) 0 ⟨#[]⟩ 0 else if k = 3 then gV 0 3 0 (Op.negFloat .f64 f) ⟨#[]⟩ 0 else gV 1 0 0 0 ⟨#[]⟩ 0
def flG (k n : Int) : Value := if k = 2 then gV 0 2 (bits .xor .i64 (-1) n) 0 ⟨#[]⟩ 0 else gV 1 0 0 0 ⟨#[]⟩ 0
def lnG (k : Int) (s : ByteArray) : Value := if k = 4 then gV 0 2 s.size 0 ⟨#[]⟩ 0 else gV 1 0 0 0 ⟨#[]⟩ 0
def bG (b : Bool) : Value := if b then gV 0 1 1 0 ⟨#[]⟩ 0 else gV 0 1 0 0 ⟨#[]⟩ 0
def unG (op k n : Int) (f : Nat) (s : ByteArray) (r : Int) : Value :=
  if okB k n f s r = false then gV 1 0 0 0 ⟨#[]⟩ 0
  else if op = 19 then ngG k n f else if op = 20 then flG k n else if op = 21 then bG (!trB k n f s r) else if op = 22 then lnG k s else gV 1 0 0 0 ⟨#[]⟩ 0

theorem negate_th (k n : Int) (f : Nat) (s : ByteArray) (r : Int) (h : okB k n f s r = true) (w : World) :
    Calls Try.prog 95 #[thW k n f s r] w fun e w' => e = .returned (ngG k n f) ∧ Below w.heap.size w w' := by
  rcases th_cases k n f s r with ⟨h', e⟩ | ⟨_, c, e⟩ | ⟨_, c, _, e⟩ | ⟨_, c, e⟩ | ⟨_, c, e⟩ | ⟨_, c, _, e⟩ | ⟨_, c, _, _, e⟩ | ⟨_, c, _, e⟩
  · rw [h] at h'; cases h'
  · rw [e, c]; exact negate_absent w
  · rw [e, c]; exact negate_flag _ w
  · rw [e, c]; exact negate_whole _ w
  · rw [e, c]; exact negate_float _ w
  · rw [e, c]; exact negate_word _ w
  · rw [e, c]; exact negate_builtin _ w
  · rw [e, show ngG k n f = gV 1 0 0 0 ⟨#[]⟩ 0 by unfold ngG; repeat rw [if_neg (by omega)]]; exact negate_made _ _ w

theorem flip_th (k n : Int) (f : Nat) (s : ByteArray) (r : Int) (h : okB k n f s r = true) (w : World) :
    Calls Try.prog 96 #[thW k n f s r] w fun e w' => e = .returned (flG k n) ∧ Below w.heap.size w w' := by
  rcases th_cases k n f s r with ⟨h', e⟩ | ⟨_, c, e⟩ | ⟨_, c, _, e⟩ | ⟨_, c, e⟩ | ⟨_, c, e⟩ | ⟨_, c, _, e⟩ | ⟨_, c, _, _, e⟩ | ⟨_, c, _, e⟩
  · rw [h] at h'; cases h'
  · rw [e, c]; exact flip_absent w
  · rw [e, c]; exact flip_flag _ w
  · rw [e, c]; exact flip_whole _ w
  · rw [e, c]; exact flip_float _ w
  · rw [e, c]; exact flip_word _ w
  · rw [e, c]; exact flip_builtin _ w
  · rw [e, show flG k n = gV 1 0 0 0 ⟨#[]⟩ 0 by unfold flG; repeat rw [if_neg (by omega)]]; exact flip_made _ _ w

theorem length_th (k n : Int) (f : Nat) (s : ByteArray) (r : Int) (h : okB k n f s r = true) (w : World) :
    Calls Try.prog 97 #[thW k n f s r] w fun e w' => e = .returned (lnG k s) ∧ Below w.heap.size w w' := by
  rcases th_cases k n f s r with ⟨h', e⟩ | ⟨_, c, e⟩ | ⟨_, c, _, e⟩ | ⟨_, c, e⟩ | ⟨_, c, e⟩ | ⟨_, c, _, e⟩ | ⟨_, c, _, _, e⟩ | ⟨_, c, _, e⟩
  · rw [h] at h'; cases h'
  · rw [e, c]; exact length_absent w
  · rw [e, c]; exact length_flag _ w
  · rw [e, c]; exact length_whole _ w
  · rw [e, c]; exact length_float _ w
  · rw [e, c]; exact length_word _ w
  · rw [e, c]; exact length_builtin _ w
  · rw [e, show lnG k s = gV 1 0 0 0 ⟨#[]⟩ 0 by unfold lnG; repeat rw [if_neg (by omega)]]; exact length_made _ _ w

theorem givesB (b : Bool) (w : World) : Calls Try.prog 65 #[.iface 106 (.bool b)] w fun e w' => e = .returned (bG b) ∧ Below w.heap.size w w' := by
  cases b
  · exact gives_flagF w
  · exact gives_flagT w
theorem bG_eq (b : Bool) : ∃ n, bG b = gV 0 1 n 0 ⟨#[]⟩ 0 := by cases b <;> exact ⟨_, rfl⟩

set_option maxRecDepth 100000 in
set_option maxHeartbeats 2000000 in
theorem iu_no (op k n : Int) (f : Nat) (s : ByteArray) (r : Int) (w : World) (h : okB k n f s r = false) :
    Calls Try.prog 45 #[.int .i64 op, vOf k n f s r] w fun e w' => e = .returned (unG op k n f s r) ∧ Below w.heap.size w w' := by
  have e1 : thW k n f s r = .nilIface := by simp [thW, h]
  rw [show unG op k n f s r = gV 1 0 0 0 ⟨#[]⟩ 0 by simp [unG, h]]
  clear h
  go_enter Try.func45, Try.ntmps45
  go_wp2_with (first | (go_at_call 60; refine (th_calls _ _ _ _ _ _).mono ?_; rintro e w1 ⟨rfl, hb1⟩; obtain ⟨hc1, hf1⟩ := bcell hb1) | (go_at_call 61; refine (failed_calls _ _).mono ?_; rintro e w2 ⟨rfl, hb2⟩; replace hb1 := below_call hb1 hb2; clear hb2 hc1 hf1; obtain ⟨hc1, hf1⟩ := bcell hb1))
  exact bodyPost_ret (v := gV 1 0 0 0 ⟨#[]⟩ 0) (by simp [results, Try.results45, go_sem, hc1]) rfl ⟨rfl, set6 (below_call (below_alloc2 _ _ _) hb1) (Nat.le_add_right _ 1) _ _ _ _ _ _⟩

set_option maxRecDepth 100000 in
set_option maxHeartbeats 2000000 in
theorem iu_neg (op k n : Int) (f : Nat) (s : ByteArray) (r : Int) (w : World) (h : okB k n f s r = true) (c1 : op = 19) :
    Calls Try.prog 45 #[.int .i64 op, vOf k n f s r] w fun e w' => e = .returned (unG op k n f s r) ∧ Below w.heap.size w w' := by
  obtain ⟨t, v, e1⟩ := iface_ne_nil k n f s r h
  subst c1
  have hN : Hid (∀ w, Calls Try.prog 95 #[.iface t v] w fun e w' => e = .returned (ngG k n f) ∧ Below w.heap.size w w') := by
    intro w; rw [← e1]; exact negate_th k n f s r h w
  rw [show unG 19 k n f s r = ngG k n f by simp [unG, h]]
  clear h
  obtain ⟨a, b, c, d, e0⟩ : ∃ a b c d, ngG k n f = gV a b c d ⟨#[]⟩ 0 := by unfold ngG; (repeat' split) <;> exact ⟨_, _, _, _, rfl⟩
  rw [e0] at hN ⊢
  clear e0
  go_enter Try.func45, Try.ntmps45
  go_wp2_with (first | (go_at_call 60; refine (th_calls _ _ _ _ _ _).mono ?_; rintro e w1 ⟨rfl, hb1⟩; obtain ⟨hc1, hf1⟩ := bcell hb1) | (go_at_call 95; refine (hN.out _).mono ?_; rintro e w2 ⟨rfl, hb2⟩; replace hb1 := below_call hb1 hb2; clear hb2 hc1 hf1; obtain ⟨hc1, hf1⟩ := bcell hb1))
  exact bodyPost_ret (v := gV a b c d ⟨#[]⟩ 0) (by simp [results, Try.results45, go_sem, hc1]) rfl ⟨rfl, set6 (below_call (below_alloc2 _ _ _) hb1) (Nat.le_add_right _ 1) _ _ _ _ _ _⟩

set_option maxRecDepth 100000 in
set_option maxHeartbeats 2000000 in
theorem iu_flip (op k n : Int) (f : Nat) (s : ByteArray) (r : Int) (w : World) (h : okB k n f s r = true) (c2 : op = 20) :
    Calls Try.prog 45 #[.int .i64 op, vOf k n f s r] w fun e w' => e = .returned (unG op k n f s r) ∧ Below w.heap.size w w' := by
  obtain ⟨t, v, e1⟩ := iface_ne_nil k n f s r h
  subst c2
  have hN : Hid (∀ w, Calls Try.prog 96 #[.iface t v] w fun e w' => e = .returned (flG k n) ∧ Below w.heap.size w w') := by
    intro w; rw [← e1]; exact flip_th k n f s r h w
  rw [show unG 20 k n f s r = flG k n by simp [unG, h]]
  clear h
  obtain ⟨a, b, c, e0⟩ : ∃ a b c, flG k n = gV a b c 0 ⟨#[]⟩ 0 := by unfold flG; split <;> exact ⟨_, _, _, rfl⟩
  rw [e0] at hN ⊢
  clear e0
  go_enter Try.func45, Try.ntmps45
  go_wp2_with (first | (go_at_call 60; refine (th_calls _ _ _ _ _ _).mono ?_; rintro e w1 ⟨rfl, hb1⟩; obtain ⟨hc1, hf1⟩ := bcell hb1) | (go_at_call 96; refine (hN.out _).mono ?_; rintro e w2 ⟨rfl, hb2⟩; replace hb1 := below_call hb1 hb2; clear hb2 hc1 hf1; obtain ⟨hc1, hf1⟩ := bcell hb1))
  exact bodyPost_ret (v := gV a b c 0 ⟨#[]⟩ 0) (by simp [results, Try.results45, go_sem, hc1]) rfl ⟨rfl, set6 (below_call (below_alloc2 _ _ _) hb1) (Nat.le_add_right _ 1) _ _ _ _ _ _⟩

set_option maxRecDepth 100000 in
set_option maxHeartbeats 2000000 in
theorem iu_not (op k n : Int) (f : Nat) (s : ByteArray) (r : Int) (w : World) (h : okB k n f s r = true) (c3 : op = 21) :
    Calls Try.prog 45 #[.int .i64 op, vOf k n f s r] w fun e w' => e = .returned (unG op k n f s r) ∧ Below w.heap.size w w' := by
  obtain ⟨t, v, e1⟩ := iface_ne_nil k n f s r h
  subst c3
  have hN : Hid (∀ w, Calls Try.prog 85 #[.iface t v] w fun e w' => e = .returned (.bool (trB k n f s r)) ∧ Below w.heap.size w w') := by
    intro w; rw [← e1]; exact truthOf_calls k n f s r w
  rw [show unG 21 k n f s r = bG (!trB k n f s r) by simp [unG, h]]
  clear h
  generalize trB k n f s r = b at *
  obtain ⟨m, e0⟩ := bG_eq (!b)
  have hB : Hid (∀ w, Calls Try.prog 65 #[.iface 106 (.bool (!b))] w fun e w' => e = .returned (gV 0 1 m 0 ⟨#[]⟩ 0) ∧ Below w.heap.size w w') := by
    intro w; rw [← e0]; exact givesB (!b) w
  rw [e0]
  clear e0
  go_enter Try.func45, Try.ntmps45
  go_wp2_with (first | (go_at_call 60; refine (th_calls _ _ _ _ _ _).mono ?_; rintro e w1 ⟨rfl, hb1⟩; obtain ⟨hc1, hf1⟩ := bcell hb1) | (go_at_call 85; refine (hN.out _).mono ?_; rintro e w2 ⟨rfl, hb2⟩; replace hb1 := below_call hb1 hb2; clear hb2 hc1 hf1; obtain ⟨hc1, hf1⟩ := bcell hb1) | (go_at_call 65; refine (hB.out _).mono ?_; rintro e w2 ⟨rfl, hb2⟩; replace hb1 := below_call hb1 hb2; clear hb2 hc1 hf1; obtain ⟨hc1, hf1⟩ := bcell hb1))
  exact bodyPost_ret (v := gV 0 1 m 0 ⟨#[]⟩ 0) (by simp [results, Try.results45, go_sem, hc1]) rfl ⟨rfl, set6 (below_call (below_alloc2 _ _ _) hb1) (Nat.le_add_right _ 1) _ _ _ _ _ _⟩

set_option maxRecDepth 100000 in
set_option maxHeartbeats 2000000 in
theorem iu_len (op k n : Int) (f : Nat) (s : ByteArray) (r : Int) (w : World) (h : okB k n f s r = true) (c4 : op = 22) :
    Calls Try.prog 45 #[.int .i64 op, vOf k n f s r] w fun e w' => e = .returned (unG op k n f s r) ∧ Below w.heap.size w w' := by
  obtain ⟨t, v, e1⟩ := iface_ne_nil k n f s r h
  subst c4
  have hN : Hid (∀ w, Calls Try.prog 97 #[.iface t v] w fun e w' => e = .returned (lnG k s) ∧ Below w.heap.size w w') := by
    intro w; rw [← e1]; exact length_th k n f s r h w
  rw [show unG 22 k n f s r = lnG k s by simp [unG, h]]
  clear h
  obtain ⟨a, b, c, e0⟩ : ∃ a b c, lnG k s = gV a b c 0 ⟨#[]⟩ 0 := by unfold lnG; split <;> exact ⟨_, _, _, rfl⟩
  rw [e0] at hN ⊢
  clear e0
  go_enter Try.func45, Try.ntmps45
  go_wp2_with (first | (go_at_call 60; refine (th_calls _ _ _ _ _ _).mono ?_; rintro e w1 ⟨rfl, hb1⟩; obtain ⟨hc1, hf1⟩ := bcell hb1) | (go_at_call 97; refine (hN.out _).mono ?_; rintro e w2 ⟨rfl, hb2⟩; replace hb1 := below_call hb1 hb2; clear hb2 hc1 hf1; obtain ⟨hc1, hf1⟩ := bcell hb1))
  exact bodyPost_ret (v := gV a b c 0 ⟨#[]⟩ 0) (by simp [results, Try.results45, go_sem, hc1]) rfl ⟨rfl, set6 (below_call (below_alloc2 _ _ _) hb1) (Nat.le_add_right _ 1) _ _ _ _ _ _⟩

set_option maxRecDepth 100000 in
set_option maxHeartbeats 2000000 in
theorem iu_else (op k n : Int) (f : Nat) (s : ByteArray) (r : Int) (w : World) (h : okB k n f s r = true) (c1 : op ≠ 19) (c2 : op ≠ 20) (c3 : op ≠ 21) (c4 : op ≠ 22) :
    Calls Try.prog 45 #[.int .i64 op, vOf k n f s r] w fun e w' => e = .returned (unG op k n f s r) ∧ Below w.heap.size w w' := by
  obtain ⟨t, v, e1⟩ := iface_ne_nil k n f s r h
  rw [show unG op k n f s r = gV 1 0 0 0 ⟨#[]⟩ 0 by simp [unG, h, c1, c2, c3, c4]]
  clear h
  have a1 : (op == 19) = false := by simpa using c1
  have a2 : (op == 20) = false := by simpa using c2
  have a3 : (op == 21) = false := by simpa using c3
  have a4 : (op == 22) = false := by simpa using c4
  go_enter Try.func45, Try.ntmps45
  go_wp2_with (first | (go_at_call 60; refine (th_calls _ _ _ _ _ _).mono ?_; rintro e w1 ⟨rfl, hb1⟩; obtain ⟨hc1, hf1⟩ := bcell hb1) | (go_at_call 61; refine (failed_calls _ _).mono ?_; rintro e w2 ⟨rfl, hb2⟩; replace hb1 := below_call hb1 hb2; clear hb2 hc1 hf1; obtain ⟨hc1, hf1⟩ := bcell hb1))
  exact bodyPost_ret (v := gV 1 0 0 0 ⟨#[]⟩ 0) (by simp [results, Try.results45, go_sem, hc1]) rfl ⟨rfl, set6 (below_call (below_alloc2 _ _ _) hb1) (Nat.le_add_right _ 1) _ _ _ _ _ _⟩

theorem implUnary_calls (op k n : Int) (f : Nat) (s : ByteArray) (r : Int) (w : World) :
    Calls Try.prog 45 #[.int .i64 op, vOf k n f s r] w fun e w' => e = .returned (unG op k n f s r) ∧ Below w.heap.size w w' := by
  cases h : okB k n f s r
  · exact iu_no op k n f s r w h
  by_cases c1 : op = 19
  · exact iu_neg op k n f s r w h c1
  by_cases c2 : op = 20
  · exact iu_flip op k n f s r w h c2
  by_cases c3 : op = 21
  · exact iu_not op k n f s r w h c3
  by_cases c4 : op = 22
  · exact iu_len op k n f s r w h c4
  exact iu_else op k n f s r w h c1 c2 c3 c4
end Go.Proofs.Ytiidepafifodjaa
