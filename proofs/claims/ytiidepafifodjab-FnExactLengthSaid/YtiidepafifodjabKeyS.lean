import Derived.Test.YtiidepafifodjabKeyOf
import Derived.Deep.QuietTactic
import Derived.BigQuiet
/-! spec.Key, FnExactKey. -/
namespace Go.Proofs.Ytiidepafifodjab
open Go.RowKit
attribute [local go_sem] run_store_float

set_option maxRecDepth 100000 in
set_option maxHeartbeats 2000000 in
theorem sk_no (k n : Int) (f : Nat) (s : ByteArray) (r : Int) (w : World) (h : okB k n f s r = false) :
    Calls Try.prog 11 #[vOf k n f s r] w fun e w' => e = .returned (kyG k n f s r) ∧ Below w.heap.size w w' := by
  rw [show kyG k n f s r = gV 1 0 0 0 ⟨#[]⟩ 0 by simp [kyG, h]]
  go_enter Try.func11, Try.ntmps11
  go_wp2_with (first | (go_at_call 35; refine (specOk_calls _ _ _ _ _ _).mono ?_; rintro e w1 ⟨rfl, hb1⟩; obtain ⟨hc1, hf1⟩ := bcell hb1) | (go_at_call 36; refine (l1fail_calls _ _).mono ?_; rintro e w2 ⟨rfl, hb2⟩; replace hb1 := below_call hb1 hb2; clear hb2 hc1 hf1; obtain ⟨hc1, hf1⟩ := bcell hb1))
  exact bodyPost_ret (v := gV 1 0 0 0 ⟨#[]⟩ 0) (by simp [results, Try.results11, go_sem, hc1]) rfl ⟨rfl, set6 (below_call (below_alloc2 _ _ _) hb1) (Nat.le_add_right _ 1) _ _ _ _ _ _⟩

set_option maxRecDepth 100000 in
set_option maxHeartbeats 2000000 in
theorem sk_nil (k n : Int) (f : Nat) (s : ByteArray) (r : Int) (w : World) (h : okB k n f s r = true) (c : k = 0) :
    Calls Try.prog 11 #[vOf k n f s r] w fun e w' => e = .returned (kyG k n f s r) ∧ Below w.heap.size w w' := by
  subst c
  rw [show kyG 0 n f s r = gV 5 0 0 0 ⟨#[]⟩ 0 by simp [kyG, h]]
  go_enter Try.func11, Try.ntmps11
  go_wp2_with (first | (go_at_call 35; refine (specOk_calls _ _ _ _ _ _).mono ?_; rintro e w1 ⟨rfl, hb1⟩; obtain ⟨hc1, hf1⟩ := bcell hb1) | (go_at_call 36; refine (l1fail_calls _ _).mono ?_; rintro e w2 ⟨rfl, hb2⟩; replace hb1 := below_call hb1 hb2; clear hb2 hc1 hf1; obtain ⟨hc1, hf1⟩ := bcell hb1))
  exact bodyPost_ret (v := gV 5 0 0 0 ⟨#[]⟩ 0) (by simp [results, Try.results11, go_sem, hc1]) rfl ⟨rfl, set6 (below_call (below_alloc2 _ _ _) hb1) (Nat.le_add_right _ 1) _ _ _ _ _ _⟩

set_option maxRecDepth 100000 in
set_option maxHeartbeats 2000000 in
theorem sk_nan (k n : Int) (f : Nat) (s : ByteArray) (r : Int) (w : World) (h : okB k n f s r = true) (c : k = 3) (hn : FloatKind.f64.format.order f f = none) :
    Calls Try.prog 11 #[vOf k n f s r] w fun e w' => e = .returned (kyG k n f s r) ∧ Below w.heap.size w w' := by
  subst c
  rw [show kyG 3 n f s r = gV 5 0 0 0 ⟨#[]⟩ 0 by simp [kyG, fkG, h, hn]]
  go_enter Try.func11, Try.ntmps11
  go_wp2_with (first | (go_at_call 35; refine (specOk_calls _ _ _ _ _ _).mono ?_; rintro e w1 ⟨rfl, hb1⟩; obtain ⟨hc1, hf1⟩ := bcell hb1) | (go_at_call 37; refine (l1nan_calls _ _).mono ?_; rintro e w2 ⟨rfl, rfl⟩) | (go_at_call 36; refine (l1fail_calls _ _).mono ?_; rintro e w2 ⟨rfl, hb2⟩; replace hb1 := below_call hb1 hb2; clear hb2 hc1 hf1; obtain ⟨hc1, hf1⟩ := bcell hb1))
  exact bodyPost_ret (v := gV 5 0 0 0 ⟨#[]⟩ 0) (by simp [results, Try.results11, go_sem, hc1]) rfl ⟨rfl, set6 (below_call (below_alloc2 _ _ _) hb1) (Nat.le_add_right _ 1) _ _ _ _ _ _⟩

set_option maxRecDepth 100000 in
set_option maxHeartbeats 2000000 in
theorem sk_else (k n : Int) (f : Nat) (s : ByteArray) (r : Int) (w : World) (h : okB k n f s r = true) (c0 : k ≠ 0) (c3 : k ≠ 3) :
    Calls Try.prog 11 #[vOf k n f s r] w fun e w' => e = .returned (kyG k n f s r) ∧ Below w.heap.size w w' := by
  rw [show kyG k n f s r = gV 0 k n f s r by unfold kyG; rw [if_neg (by rw [h]; decide), if_neg c0, if_neg c3]]
  have a0 : (k == 0) = false := by simpa using c0
  have a3 : (k == 3) = false := by simpa using c3
  go_enter Try.func11, Try.ntmps11
  go_wp2_with (first | (go_at_call 35; refine (specOk_calls _ _ _ _ _ _).mono ?_; rintro e w1 ⟨rfl, hb1⟩; obtain ⟨hc1, hf1⟩ := bcell hb1) | (go_at_call 39; refine (l1got_calls _ _ _ _ _ _).mono ?_; rintro e w2 ⟨rfl, hb2⟩; replace hb1 := below_call hb1 hb2; clear hb2 hc1 hf1; obtain ⟨hc1, hf1⟩ := bcell hb1))
  go_quiet ((fail))
  replace hb1 := below_drewN hb1 nq; clear hc1 hf1; obtain ⟨hc1, hf1⟩ := bcell hb1
  go_wp2_with (go_at_call 39; refine (l1got_calls _ _ _ _ _ _).mono ?_; rintro e w2 ⟨rfl, hb2⟩; replace hb1 := below_call hb1 hb2; clear hb2 hc1 hf1; obtain ⟨hc1, hf1⟩ := bcell hb1)
  exact bodyPost_ret (v := gV 0 k n f s r) (by simp [results, Try.results11, go_sem, hc1]) rfl ⟨rfl, set6 (below_call (below_alloc2 _ _ _) hb1) (Nat.le_add_right _ 1) _ _ _ _ _ _⟩

theorem ok3 {n : Int} {f : Nat} {s : ByteArray} {r : Int} (h : okB 3 n f s r = true) : n = 0 ∧ s = ⟨#[]⟩ ∧ r = 0 := by
  simp only [okB, ueB, Bool.and_eq_true] at h
  have h1 := h.1
  simp at h1
  refine ⟨h1.1.1, ?_, h1.2⟩
  have := h1.1.2
  simp only [se, List.isEmpty_iff] at this
  rw [ByteArray.toList_eq] at this
  obtain ⟨⟨l⟩⟩ := s
  have : l = [] := this
  rw [this]

set_option maxRecDepth 100000 in
set_option maxHeartbeats 2000000 in
theorem sk_not (f : Nat) (hf : f < 2 ^ 64) (h : okB 3 0 f ⟨#[]⟩ 0 = true) (hE : FloatKind.f64.format.order f f = some .eq) (hw : whB f = false) (w : World) :
    Calls Try.prog 11 #[vOf 3 0 f ⟨#[]⟩ 0] w fun e w' => e = .returned (gV 0 3 0 f ⟨#[]⟩ 0) ∧ Below w.heap.size w w' := by
  obtain ⟨d2, a2⟩ := ord_some hf hE Fl.fin_ntwo63
  obtain ⟨d1, a1⟩ := ord_some hf hE Fl.fin_two63
  have a2' : FloatKind.f64.format.order f ntwo63 = some d2 := a2
  have a1' : FloatKind.f64.format.order f two63 = some d1 := a1
  have HF : Hid (f < 2 ^ 64) := hf
  have hw' := hw
  unfold whB at hw'
  rw [a1', a2'] at hw'
  clear hw hf a1' a2'
  cases hF : (FloatKind.f64.format.order f (Fl.floorW f) == some .eq)
  · clear hw'
    go_enter Try.func11, Try.ntmps11
    go_wp2_with (first | (go_at_call 35; refine (specOk_calls _ _ _ _ _ _).mono ?_; rintro e w1 ⟨rfl, hb1⟩; obtain ⟨hc1, hf1⟩ := bcell hb1) | (go_at_call 37; refine (l1nan_calls _ _).mono ?_; rintro e w2 ⟨rfl, rfl⟩))
    go_quiet ((go_at_call 38; exact Calls.quiet_of_same (l1floor_calls _ HF.out hE _)))
    replace hb1 := below_drewN hb1 nq; clear hc1 hf1; obtain ⟨hc1, hf1⟩ := bcell hb1
    go_wp2_with (go_at_call 39; refine (l1got_calls _ _ _ _ _ _).mono ?_; rintro e w2 ⟨rfl, hb2⟩; replace hb1 := below_call hb1 hb2; clear hb2 hc1 hf1; obtain ⟨hc1, hf1⟩ := bcell hb1)
    exact bodyPost_ret (v := gV 0 3 0 f ⟨#[]⟩ 0) (by simp [results, Try.results11, go_sem, hc1]) rfl ⟨rfl, set6 (below_call (below_alloc2 _ _ _) hb1) (Nat.le_add_right _ 1) _ _ _ _ _ _⟩
  · rw [hF] at hw'
    cases d2 <;> cases d1 <;> first | (exact absurd hw' (by decide)) | skip
    all_goals
      clear hw'
      go_enter Try.func11, Try.ntmps11
      go_wp2_with (first | (go_at_call 35; refine (specOk_calls _ _ _ _ _ _).mono ?_; rintro e w1 ⟨rfl, hb1⟩; obtain ⟨hc1, hf1⟩ := bcell hb1) | (go_at_call 37; refine (l1nan_calls _ _).mono ?_; rintro e w2 ⟨rfl, rfl⟩))
      go_quiet ((go_at_call 38; exact Calls.quiet_of_same (l1floor_calls _ HF.out hE _)))
      replace hb1 := below_drewN hb1 nq; clear hc1 hf1; obtain ⟨hc1, hf1⟩ := bcell hb1
      go_wp2_with (go_at_call 39; refine (l1got_calls _ _ _ _ _ _).mono ?_; rintro e w2 ⟨rfl, hb2⟩; replace hb1 := below_call hb1 hb2; clear hb2 hc1 hf1; obtain ⟨hc1, hf1⟩ := bcell hb1)
      exact bodyPost_ret (v := gV 0 3 0 f ⟨#[]⟩ 0) (by simp [results, Try.results11, go_sem, hc1]) rfl ⟨rfl, set6 (below_call (below_alloc2 _ _ _) hb1) (Nat.le_add_right _ 1) _ _ _ _ _ _⟩

set_option maxRecDepth 100000 in
set_option maxHeartbeats 2000000 in
theorem sk_yes (f : Nat) (hf : f < 2 ^ 64) (h : okB 3 0 f ⟨#[]⟩ 0 = true) (hE : FloatKind.f64.format.order f f = some .eq) (hw : whB f = true) (w : World) :
    Calls Try.prog 11 #[vOf 3 0 f ⟨#[]⟩ 0] w fun e w' => e = .returned (gV 0 2 ((floatToIntVal .f64 f .i64).getD 0) 0 ⟨#[]⟩ 0) ∧ Below w.heap.size w w' := by
  have hw' := hw
  unfold whB at hw'
  simp only [Bool.and_eq_true, Bool.or_eq_true, beq_iff_eq] at hw'
  obtain ⟨⟨b2, b1⟩, bF⟩ := hw'
  obtain ⟨v, hv⟩ := cut_int hf b2 b1
  rw [show (floatToIntVal .f64 f .i64).getD 0 = v by rw [hv]; rfl]
  have hcv := fun (w : World) => run_convert_float_int (P := Try.prog) w 22 2 .f64 .i64 f v (by rw [Try.underlying22]; rfl) Try.underlying2 hv
  have HF : Hid (f < 2 ^ 64) := hf
  clear hw hf hv
  rcases b2 with b2 | b2
  · go_enter Try.func11, Try.ntmps11
    go_wp2_with (first | (go_at_call 35; refine (specOk_calls _ _ _ _ _ _).mono ?_; rintro e w1 ⟨rfl, hb1⟩; obtain ⟨hc1, hf1⟩ := bcell hb1) | (go_at_call 37; refine (l1nan_calls _ _).mono ?_; rintro e w2 ⟨rfl, rfl⟩))
    go_quiet ((go_at_call 38; exact Calls.quiet_of_same (l1floor_calls _ HF.out hE _)))
    replace hb1 := below_drewN hb1 nq; clear hc1 hf1; obtain ⟨hc1, hf1⟩ := bcell hb1
    go_wp2_with (first | (go_at_call 40; refine (l1int_calls _ _).mono ?_; rintro e w2 ⟨rfl, hb2⟩; replace hb1 := below_call hb1 hb2; clear hb2 hc1 hf1; obtain ⟨hc1, hf1⟩ := bcell hb1) | (go_at_call 39; refine (l1got_calls _ _ _ _ _ _).mono ?_; rintro e w2 ⟨rfl, hb2⟩; replace hb1 := below_call hb1 hb2; clear hb2 hc1 hf1; obtain ⟨hc1, hf1⟩ := bcell hb1))
    exact bodyPost_ret (v := gV 0 2 v 0 ⟨#[]⟩ 0) (by simp [results, Try.results11, go_sem, hc1]) rfl ⟨rfl, set6 (below_call (below_alloc2 _ _ _) hb1) (Nat.le_add_right _ 1) _ _ _ _ _ _⟩
  · go_enter Try.func11, Try.ntmps11
    go_wp2_with (first | (go_at_call 35; refine (specOk_calls _ _ _ _ _ _).mono ?_; rintro e w1 ⟨rfl, hb1⟩; obtain ⟨hc1, hf1⟩ := bcell hb1) | (go_at_call 37; refine (l1nan_calls _ _).mono ?_; rintro e w2 ⟨rfl, rfl⟩))
    go_quiet ((go_at_call 38; exact Calls.quiet_of_same (l1floor_calls _ HF.out hE _)))
    replace hb1 := below_drewN hb1 nq; clear hc1 hf1; obtain ⟨hc1, hf1⟩ := bcell hb1
    go_wp2_with (first | (go_at_call 40; refine (l1int_calls _ _).mono ?_; rintro e w2 ⟨rfl, hb2⟩; replace hb1 := below_call hb1 hb2; clear hb2 hc1 hf1; obtain ⟨hc1, hf1⟩ := bcell hb1) | (go_at_call 39; refine (l1got_calls _ _ _ _ _ _).mono ?_; rintro e w2 ⟨rfl, hb2⟩; replace hb1 := below_call hb1 hb2; clear hb2 hc1 hf1; obtain ⟨hc1, hf1⟩ := bcell hb1))
    exact bodyPost_ret (v := gV 0 2 v 0 ⟨#[]⟩ 0) (by simp [results, Try.results11, go_sem, hc1]) rfl ⟨rfl, set6 (below_call (below_alloc2 _ _ _) hb1) (Nat.le_add_right _ 1) _ _ _ _ _ _⟩

theorem specKey_calls (k n : Int) (f : Nat) (s : ByteArray) (r : Int) (hf : f < 2 ^ 64) (w : World) :
    Calls Try.prog 11 #[vOf k n f s r] w fun e w' => e = .returned (kyG k n f s r) ∧ Below w.heap.size w w' := by
  cases h : okB k n f s r
  · exact sk_no k n f s r w h
  by_cases c0 : k = 0
  · exact sk_nil k n f s r w h c0
  by_cases c3 : k = 3
  · rcases (order_self hf).symm with hE | hE
    · exact sk_nan k n f s r w h c3 hE
    · subst c3
      obtain ⟨rfl, rfl, rfl⟩ := ok3 h
      cases hw : whB f
      · rw [show kyG 3 0 f ⟨#[]⟩ 0 = gV 0 3 0 f ⟨#[]⟩ 0 by simp [kyG, fkG, h, hE, hw]]; exact sk_not f hf h hE hw w
      · rw [show kyG 3 0 f ⟨#[]⟩ 0 = gV 0 2 ((floatToIntVal .f64 f .i64).getD 0) 0 ⟨#[]⟩ 0 by simp [kyG, fkG, h, hE, hw]]; exact sk_yes f hf h hE hw w
  exact sk_else k n f s r w h c0 c3

theorem kyG_form2 (k n : Int) (f : Nat) (s : ByteArray) (r : Int) (h : f < 2 ^ 64) : ∃ a b c d t u, kyG k n f s r = gV a b c d t u ∧ d < 2 ^ 64 := by
  unfold kyG fkG
  (repeat' split) <;> first | exact ⟨_, _, _, 0, _, _, rfl, by decide⟩ | exact ⟨_, _, _, _, _, _, rfl, h⟩

set_option maxRecDepth 100000 in
set_option maxHeartbeats 2000000 in
theorem key_walk (k n : Int) (f : Nat) (s : ByteArray) (r : Int) (w : World) (hs : s.size ≤ maxLen) (hf : f < 2 ^ 64) :
    Calls Try.prog 3 #[vOf k n f s r] w fun e w' => e = .returned (.bool true) ∧ Below w.heap.size w w' := by
  have hz : Hid (s.size ≤ maxLen) := hs
  clear hs
  by_cases h : (1048576 : Int) < s.size
  · clear hf
    go_enter Try.func3, Try.ntmps3
    go_wp2_with (go_at_call 10; refine (sz_calls _ _ _ _ _ _ _ (by omega) (by omega) hz.out).mono ?_; rw [if_pos h]; rintro e w1 ⟨rfl, hb⟩; obtain ⟨hc, hf⟩ := bcell hb)
    go_ret
    exact ⟨rfl, below_call (below_alloc _ _) hb⟩
  · obtain ⟨a, b, c, d, t, u, e0, hd⟩ := kyG_form2 k n f s r hf
    have hI : Hid (∀ w, Calls Try.prog 13 #[vOf k n f s r] w fun e w' => e = .returned (gV a b c d t u) ∧ Below w.heap.size w w') := by
      intro w; rw [← e0]; exact implKey_calls k n f s r hf w
    have hS : Hid (∀ w, Calls Try.prog 11 #[vOf k n f s r] w fun e w' => e = .returned (gV a b c d t u) ∧ Below w.heap.size w w') := by
      intro w; rw [← e0]; exact specKey_calls k n f s r hf w
    have hO : Hid (oneF d d) := .inl ⟨rfl, hd⟩
    clear e0 hf hd
    have hB : Below w.heap.size w w := Below.refl _ _
    go_enter Try.func3, Try.ntmps3
    go_wp2_with (first | (go_at_call 10; refine (sz_calls _ _ _ _ _ _ _ (by omega) (by omega) hz.out).mono ?_; rw [if_neg h]; rintro e w2 ⟨rfl, hb2⟩; obtain ⟨hc2, hf2⟩ := bcell hb2; have hz2 := hb2.size; (try simp at hz2); (try have hz3 := Nat.lt_of_succ_le hz2); have hs2 : w.heap.size < w2.heap.size := (by omega); (first | replace hB := below_call hB hb2 | replace hB := below_call (below_a hB _) hb2 | replace hB := below_call (below_a (below_a hB _) _) hb2); clear hb2) | (go_at_call 12; refine (to_calls _ _ _ _ _ _).mono ?_; rintro e w2 ⟨rfl, hb2⟩; obtain ⟨hc2, hf2⟩ := bcell hb2; have hz2 := hb2.size; (try simp at hz2); (try have hz3 := Nat.lt_of_succ_le hz2); have hs2 : w.heap.size < w2.heap.size := (by omega); (first | replace hB := below_call hB hb2 | replace hB := below_call (below_a hB _) hb2 | replace hB := below_call (below_a (below_a hB _) _) hb2); clear hb2) | (go_at_call 11; refine (hS.out _).mono ?_; rintro e wS ⟨rfl, hb2⟩; obtain ⟨hc2, hf2⟩ := bcell hb2; have hz2 := hb2.size; (try simp at hz2); (try have hz3 := Nat.lt_of_succ_le hz2); have hs2 : w.heap.size < wS.heap.size := (by omega); (first | replace hB := below_call hB hb2 | replace hB := below_call (below_a hB _) hb2 | replace hB := below_call (below_a (below_a hB _) _) hb2); clear hb2) | (go_at_call 13; refine (hI.out _).mono ?_; rintro e wI ⟨rfl, hb2⟩; obtain ⟨hc2, hf2⟩ := bcell hb2; have hz2 := hb2.size; (try simp at hz2); (try have hz3 := Nat.lt_of_succ_le hz2); have hs2 : w.heap.size < wI.heap.size := (by omega); have hsI : wS.heap.size < wI.heap.size := (by omega); (first | replace hB := below_call hB hb2 | replace hB := below_call (below_a hB _) hb2 | replace hB := below_call (below_a (below_a hB _) _) hb2); clear hb2) | (go_at_call 14; refine (eqValued_calls _ _ _ _ _ _ _ hO.out _).mono ?_; rintro e w2 ⟨rfl, hb2⟩; obtain ⟨hc2, hf2⟩ := bcell hb2; have hz2 := hb2.size; (try simp at hz2); (try have hz3 := Nat.lt_of_succ_le hz2); have hs2 : w.heap.size < w2.heap.size := (by omega); (first | replace hB := below_call hB hb2 | replace hB := below_call (below_a hB _) hb2 | replace hB := below_call (below_a (below_a hB _) _) hb2); clear hb2))
    go_ret
    exact ⟨rfl, hB⟩
end Go.Proofs.Ytiidepafifodjab
