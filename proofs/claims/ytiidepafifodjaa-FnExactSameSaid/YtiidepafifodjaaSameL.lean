import Derived.Test.YtiidepafifodjaaSameS
/-! FnExactSame: the walk. -/
namespace Go.Proofs.Ytiidepafifodjaa
open Go.RowKit

set_option maxRecDepth 100000 in
set_option maxHeartbeats 8000000 in
theorem same_walk (k n : Int) (f : Nat) (s : ByteArray) (r : Int) (k' n' : Int) (f' : Nat) (s' : ByteArray) (r' : Int) (w : World) (hs : s.size ≤ maxLen) (hs' : s'.size ≤ maxLen) (hf : f < 2 ^ 64) (hf' : f' < 2 ^ 64) :
    Calls Try.prog 9 #[vOf k n f s r, vOf k' n' f' s' r'] w fun e w' => e = .returned (.bool true) ∧ Below w.heap.size w w' := by
  have hI : Hid (∀ w, Calls Try.prog 41 #[vOf k n f s r, vOf k' n' f' s' r'] w fun e w' => e = .returned (.bool (smG k n f s r k' n' f' s' r')) ∧ Below w.heap.size w w') := fun w => implSame_calls k n f s r k' n' f' s' r' hf hf' w
  have hS : Hid (∀ w, Calls Try.prog 40 #[vOf k n f s r, vOf k' n' f' s' r'] w fun e w' => e = .returned (.bool (smG k n f s r k' n' f' s' r')) ∧ Below w.heap.size w w') := fun w => specSame_calls k n f s r k' n' f' s' r' hs hs' hf hf' w
  have hz : Hid (s.size ≤ maxLen) := hs
  have hz' : Hid (s'.size ≤ maxLen) := hs'
  clear hs hs' hf hf'
  generalize smG k n f s r k' n' f' s' r' = c at *
  by_cases h : (1048576 : Int) < s.size
  · go_enter Try.func9, Try.ntmps9
    go_wp2_with (go_at_call 26; refine (sz_calls _ _ _ _ _ _ _ (by omega) (by omega) hz.out).mono ?_; rw [if_pos h]; rintro e w1 ⟨rfl, hb1⟩; obtain ⟨hc1, hf1⟩ := bcell hb1)
    go_ret; exact ⟨rfl, below_call (below_alloc2 _ _ _) hb1⟩
  by_cases h' : (1048576 : Int) - s.size < s'.size
  · go_enter Try.func9, Try.ntmps9
    go_wp2_with fail
    refine (sz_calls _ _ _ _ _ _ _ (by omega) (by omega) hz.out).mono ?_
    rw [if_neg (by omega)]
    rintro e w1 ⟨rfl, hb1⟩; obtain ⟨hc1, hf1⟩ := bcell hb1
    go_wp2_with fail
    refine (sz_calls _ _ _ _ _ _ _ (by omega) (by omega) hz'.out).mono ?_
    rw [if_pos (by omega)]
    rintro e w2 ⟨rfl, hb2⟩; (first | replace hb1 := below_call hb1 hb2 | replace hb1 := below_call hb1.drew hb2 | replace hb1 := below_call hb1.drew.drew hb2 | replace hb1 := below_call hb1.drew.drew.drew hb2 | replace hb1 := below_call hb1.drew.drew.drew.drew hb2 | replace hb1 := below_call hb1.drew.drew.drew.drew.drew hb2); clear hb2 hc1 hf1; obtain ⟨hc1, hf1⟩ := bcell hb1
    go_wp2
    go_ret; exact ⟨rfl, below_call (below_alloc2 _ _ _) hb1⟩
  go_enter Try.func9, Try.ntmps9
  go_wp2_with fail
  refine (sz_calls _ _ _ _ _ _ _ (by omega) (by omega) hz.out).mono ?_
  rw [if_neg (by omega)]
  rintro e w1 ⟨rfl, hb1⟩; obtain ⟨hc1, hf1⟩ := bcell hb1
  go_wp2_with fail
  refine (sz_calls _ _ _ _ _ _ _ (by omega) (by omega) hz'.out).mono ?_
  rw [if_neg (by omega)]
  rintro e w2 ⟨rfl, hb2⟩; (first | replace hb1 := below_call hb1 hb2 | replace hb1 := below_call hb1.drew hb2 | replace hb1 := below_call hb1.drew.drew hb2 | replace hb1 := below_call hb1.drew.drew.drew hb2 | replace hb1 := below_call hb1.drew.drew.drew.drew hb2 | replace hb1 := below_call hb1.drew.drew.drew.drew.drew hb2); clear hb2 hc1 hf1; obtain ⟨hc1, hf1⟩ := bcell hb1
  go_wp2_with fail
  go_region_with (first | (go_at_call 29; refine (to_calls _ _ _ _ _ _).mono ?_; rintro e w2 ⟨rfl, hb2⟩; (first | replace hb1 := below_call hb1 hb2 | replace hb1 := below_call hb1.drew hb2 | replace hb1 := below_call hb1.drew.drew hb2 | replace hb1 := below_call hb1.drew.drew.drew hb2 | replace hb1 := below_call hb1.drew.drew.drew.drew hb2 | replace hb1 := below_call hb1.drew.drew.drew.drew.drew hb2); clear hb2 hc1 hf1; obtain ⟨hc1, hf1⟩ := bcell hb1) | (go_at_call 40; refine (hS.out _).mono ?_; rintro e w2 ⟨rfl, hb2⟩; (first | replace hb1 := below_call hb1 hb2 | replace hb1 := below_call hb1.drew hb2 | replace hb1 := below_call hb1.drew.drew hb2 | replace hb1 := below_call hb1.drew.drew.drew hb2 | replace hb1 := below_call hb1.drew.drew.drew.drew hb2 | replace hb1 := below_call hb1.drew.drew.drew.drew.drew hb2); clear hb2 hc1 hf1; obtain ⟨hc1, hf1⟩ := bcell hb1))
  all_goals clear hS
  all_goals go_wp2_with fail
  all_goals go_region_with (first | (go_at_call 29; refine (to_calls _ _ _ _ _ _).mono ?_; rintro e w2 ⟨rfl, hb2⟩; (first | replace hb1 := below_call hb1 hb2 | replace hb1 := below_call hb1.drew hb2 | replace hb1 := below_call hb1.drew.drew hb2 | replace hb1 := below_call hb1.drew.drew.drew hb2 | replace hb1 := below_call hb1.drew.drew.drew.drew hb2 | replace hb1 := below_call hb1.drew.drew.drew.drew.drew hb2); clear hb2 hc1 hf1; obtain ⟨hc1, hf1⟩ := bcell hb1) | (go_at_call 41; refine (hI.out _).mono ?_; rintro e w2 ⟨rfl, hb2⟩; (first | replace hb1 := below_call hb1 hb2 | replace hb1 := below_call hb1.drew hb2 | replace hb1 := below_call hb1.drew.drew hb2 | replace hb1 := below_call hb1.drew.drew.drew hb2 | replace hb1 := below_call hb1.drew.drew.drew.drew hb2 | replace hb1 := below_call hb1.drew.drew.drew.drew.drew hb2); clear hb2 hc1 hf1; obtain ⟨hc1, hf1⟩ := bcell hb1))
  all_goals go_wp2
  all_goals go_ret
  all_goals exact ⟨rfl, by first | exact below_call (below_alloc2 _ _ _) hb1 | exact below_call (below_alloc2 _ _ _) hb1.drew | exact below_call (below_alloc2 _ _ _) hb1.drew.drew | exact below_call (below_alloc2 _ _ _) hb1.drew.drew.drew | exact below_call (below_alloc2 _ _ _) hb1.drew.drew.drew.drew | exact below_call (below_alloc2 _ _ _) hb1.drew.drew.drew.drew.drew⟩

end Go.Proofs.Ytiidepafifodjaa
