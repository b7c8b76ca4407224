import Derived.Test.YtiidepafifodjabGreatOrder
import Derived.Test.YtiidepafifodjabGreatSet
import Derived.Deep.RegionWith
/-! impl.Compare. -/
namespace Go.Proofs.YtiidepafifodjabGreat
open Go.RowKit

def cmG (k n : Int) (f : Nat) (s : ByteArray) (r : Int) (k' n' : Int) (f' : Nat) (s' : ByteArray) (r' : Int) : Int :=
  if okB k n f s r = false ∨ okB k' n' f' s' r' = false then 3
  else if k = 4 ∧ k' = 4 then cbs s s'
  else if k = 2 ∧ k' = 2 then cmpI n n'
  else if k = 2 ∧ k' = 3 then mixG n f'
  else if k = 3 ∧ k' = 2 then mixR n' f
  else if k = 3 ∧ k' = 3 then fltG f f'
  else 3

theorem order_th (k n : Int) (f : Nat) (s : ByteArray) (r : Int) (k' n' : Int) (f' : Nat) (s' : ByteArray) (r' : Int) (hf : f < 2 ^ 64) (hf' : f' < 2 ^ 64) (w : World) :
    Calls Tryz.prog 52 #[thW k n f s r, thW k' n' f' s' r'] w fun e w' => e = .returned (.int .i64 (cmG k n f s r k' n' f' s' r')) ∧ w' = w := by
  rcases th_cases k n f s r with ⟨h, e⟩ | ⟨h, c, e⟩ | ⟨h, c, _, e⟩ | ⟨h, c, e⟩ | ⟨h, c, e⟩ | ⟨h, c, _, e⟩ | ⟨h, c, _, _, e⟩ | ⟨h, c, _, e⟩
  · rw [e, show cmG k n f s r k' n' f' s' r' = 3 by unfold cmG; rw [if_pos (.inl h)]]; exact order_nilI _ w
  · rw [e]
    have e3 : cmG k n f s r k' n' f' s' r' = 3 := by
      unfold cmG
      by_cases h' : okB k' n' f' s' r' = false
      · rw [if_pos (.inr h')]
      · rw [if_neg (by rw [h]; simpa using h'), if_neg (by omega), if_neg (by omega), if_neg (by omega), if_neg (by omega), if_neg (by omega)]
    rw [e3]; exact order_absent _ w
  · rw [e]
    have e3 : cmG k n f s r k' n' f' s' r' = 3 := by
      unfold cmG
      by_cases h' : okB k' n' f' s' r' = false
      · rw [if_pos (.inr h')]
      · rw [if_neg (by rw [h]; simpa using h'), if_neg (by omega), if_neg (by omega), if_neg (by omega), if_neg (by omega), if_neg (by omega)]
    rw [e3]; exact order_flag _ _ w
  · rw [e]
    rcases th_cases k' n' f' s' r' with ⟨h', e'⟩ | ⟨h', c', e'⟩ | ⟨h', c', _, e'⟩ | ⟨h', c', e'⟩ | ⟨h', c', e'⟩ | ⟨h', c', _, e'⟩ | ⟨h', c', _, _, e'⟩ | ⟨h', c', _, e'⟩
    · rw [e', show cmG k n f s r k' n' f' s' r' = 3 by unfold cmG; rw [if_pos (.inr h')]]; exact order_whole n _ _ (fun w => orderWhole_nilI n  w) w
    · rw [e', show cmG k n f s r k' n' f' s' r' = 3 by unfold cmG; rw [if_neg (by rw [h, h']; decide), if_neg (by omega), if_neg (by omega), if_neg (by omega), if_neg (by omega), if_neg (by omega)]]; exact order_whole n _ _ (fun w => orderWhole_absent n  w) w
    · rw [e', show cmG k n f s r k' n' f' s' r' = 3 by unfold cmG; rw [if_neg (by rw [h, h']; decide), if_neg (by omega), if_neg (by omega), if_neg (by omega), if_neg (by omega), if_neg (by omega)]]; exact order_whole n _ _ (fun w => orderWhole_flag n _ w) w
    · rw [e', show cmG k n f s r k' n' f' s' r' = cmpI n n' by unfold cmG; rw [if_neg (by rw [h, h']; decide), if_neg (by omega), if_pos ⟨c, c'⟩]]; exact order_whole n _ _ (fun w => orderWhole_whole n _ w) w
    · rw [e', show cmG k n f s r k' n' f' s' r' = mixG n f' by unfold cmG; rw [if_neg (by rw [h, h']; decide), if_neg (by omega), if_neg (by omega), if_pos ⟨c, c'⟩]]; exact order_whole n _ _ (fun w => orderWhole_float n _ hf' w) w
    · rw [e', show cmG k n f s r k' n' f' s' r' = 3 by unfold cmG; rw [if_neg (by rw [h, h']; decide), if_neg (by omega), if_neg (by omega), if_neg (by omega), if_neg (by omega), if_neg (by omega)]]; exact order_whole n _ _ (fun w => orderWhole_word n _ w) w
    · rw [e', show cmG k n f s r k' n' f' s' r' = 3 by unfold cmG; rw [if_neg (by rw [h, h']; decide), if_neg (by omega), if_neg (by omega), if_neg (by omega), if_neg (by omega), if_neg (by omega)]]; exact order_whole n _ _ (fun w => orderWhole_builtin n _ w) w
    · rw [e', show cmG k n f s r k' n' f' s' r' = 3 by unfold cmG; rw [if_neg (by rw [h, h']; decide), if_neg (by omega), if_neg (by omega), if_neg (by omega), if_neg (by omega), if_neg (by omega)]]; exact order_whole n _ _ (fun w => orderWhole_made n _ _ w) w
  · rw [e]
    rcases th_cases k' n' f' s' r' with ⟨h', e'⟩ | ⟨h', c', e'⟩ | ⟨h', c', _, e'⟩ | ⟨h', c', e'⟩ | ⟨h', c', e'⟩ | ⟨h', c', _, e'⟩ | ⟨h', c', _, _, e'⟩ | ⟨h', c', _, e'⟩
    · rw [e', show cmG k n f s r k' n' f' s' r' = 3 by unfold cmG; rw [if_pos (.inr h')]]; exact order_float f _ _ (fun w => orderFloat_nilI f  w) w
    · rw [e', show cmG k n f s r k' n' f' s' r' = 3 by unfold cmG; rw [if_neg (by rw [h, h']; decide), if_neg (by omega), if_neg (by omega), if_neg (by omega), if_neg (by omega), if_neg (by omega)]]; exact order_float f _ _ (fun w => orderFloat_absent f  w) w
    · rw [e', show cmG k n f s r k' n' f' s' r' = 3 by unfold cmG; rw [if_neg (by rw [h, h']; decide), if_neg (by omega), if_neg (by omega), if_neg (by omega), if_neg (by omega), if_neg (by omega)]]; exact order_float f _ _ (fun w => orderFloat_flag f _ w) w
    · rw [e', show cmG k n f s r k' n' f' s' r' = mixR n' f by unfold cmG; rw [if_neg (by rw [h, h']; decide), if_neg (by omega), if_neg (by omega), if_neg (by omega), if_pos ⟨c, c'⟩]]; exact order_float f _ _ (fun w => orderFloat_whole f _ hf w) w
    · rw [e', show cmG k n f s r k' n' f' s' r' = fltG f f' by unfold cmG; rw [if_neg (by rw [h, h']; decide), if_neg (by omega), if_neg (by omega), if_neg (by omega), if_neg (by omega), if_pos ⟨c, c'⟩]]; exact order_float f _ _ (fun w => orderFloat_float f _ hf hf' w) w
    · rw [e', show cmG k n f s r k' n' f' s' r' = 3 by unfold cmG; rw [if_neg (by rw [h, h']; decide), if_neg (by omega), if_neg (by omega), if_neg (by omega), if_neg (by omega), if_neg (by omega)]]; exact order_float f _ _ (fun w => orderFloat_word f _ w) w
    · rw [e', show cmG k n f s r k' n' f' s' r' = 3 by unfold cmG; rw [if_neg (by rw [h, h']; decide), if_neg (by omega), if_neg (by omega), if_neg (by omega), if_neg (by omega), if_neg (by omega)]]; exact order_float f _ _ (fun w => orderFloat_builtin f _ w) w
    · rw [e', show cmG k n f s r k' n' f' s' r' = 3 by unfold cmG; rw [if_neg (by rw [h, h']; decide), if_neg (by omega), if_neg (by omega), if_neg (by omega), if_neg (by omega), if_neg (by omega)]]; exact order_float f _ _ (fun w => orderFloat_made f _ _ w) w
  · rw [e]
    rcases th_cases k' n' f' s' r' with ⟨h', e'⟩ | ⟨h', c', e'⟩ | ⟨h', c', _, e'⟩ | ⟨h', c', e'⟩ | ⟨h', c', e'⟩ | ⟨h', c', _, e'⟩ | ⟨h', c', _, _, e'⟩ | ⟨h', c', _, e'⟩
    · rw [e', show cmG k n f s r k' n' f' s' r' = 3 by unfold cmG; rw [if_pos (.inr h')]]; exact order_word_nilI s  w
    · rw [e', show cmG k n f s r k' n' f' s' r' = 3 by unfold cmG; rw [if_neg (by rw [h, h']; decide), if_neg (by omega), if_neg (by omega), if_neg (by omega), if_neg (by omega), if_neg (by omega)]]; exact order_word_absent s  w
    · rw [e', show cmG k n f s r k' n' f' s' r' = 3 by unfold cmG; rw [if_neg (by rw [h, h']; decide), if_neg (by omega), if_neg (by omega), if_neg (by omega), if_neg (by omega), if_neg (by omega)]]; exact order_word_flag s _ w
    · rw [e', show cmG k n f s r k' n' f' s' r' = 3 by unfold cmG; rw [if_neg (by rw [h, h']; decide), if_neg (by omega), if_neg (by omega), if_neg (by omega), if_neg (by omega), if_neg (by omega)]]; exact order_word_whole s _ w
    · rw [e', show cmG k n f s r k' n' f' s' r' = 3 by unfold cmG; rw [if_neg (by rw [h, h']; decide), if_neg (by omega), if_neg (by omega), if_neg (by omega), if_neg (by omega), if_neg (by omega)]]; exact order_word_float s _ w
    · rw [e', show cmG k n f s r k' n' f' s' r' = cbs s s' by unfold cmG; rw [if_neg (by rw [h, h']; decide), if_pos ⟨c, c'⟩]]; exact order_word_word s _ w
    · rw [e', show cmG k n f s r k' n' f' s' r' = 3 by unfold cmG; rw [if_neg (by rw [h, h']; decide), if_neg (by omega), if_neg (by omega), if_neg (by omega), if_neg (by omega), if_neg (by omega)]]; exact order_word_builtin s _ w
    · rw [e', show cmG k n f s r k' n' f' s' r' = 3 by unfold cmG; rw [if_neg (by rw [h, h']; decide), if_neg (by omega), if_neg (by omega), if_neg (by omega), if_neg (by omega), if_neg (by omega)]]; exact order_word_made s _ _ w
  · rw [e]
    have e3 : cmG k n f s r k' n' f' s' r' = 3 := by
      unfold cmG
      by_cases h' : okB k' n' f' s' r' = false
      · rw [if_pos (.inr h')]
      · rw [if_neg (by rw [h]; simpa using h'), if_neg (by omega), if_neg (by omega), if_neg (by omega), if_neg (by omega), if_neg (by omega)]
    rw [e3]; exact order_builtin _ _ w
  · rw [e]
    have e3 : cmG k n f s r k' n' f' s' r' = 3 := by
      unfold cmG
      by_cases h' : okB k' n' f' s' r' = false
      · rw [if_pos (.inr h')]
      · rw [if_neg (by rw [h]; simpa using h'), if_neg (by omega), if_neg (by omega), if_neg (by omega), if_neg (by omega), if_neg (by omega)]
    rw [e3]; exact order_made _ _ _ w

set_option maxRecDepth 100000 in
set_option maxHeartbeats 4000000 in
theorem implCompare_calls (k n : Int) (f : Nat) (s : ByteArray) (r : Int) (k' n' : Int) (f' : Nat) (s' : ByteArray) (r' : Int) (hf : f < 2 ^ 64) (hf' : f' < 2 ^ 64) (w : World) :
    Calls Tryz.prog 22 #[vOf k n f s r, vOf k' n' f' s' r'] w fun e w' => e = .returned (.int .i64 (cmG k n f s r k' n' f' s' r')) ∧ Below w.heap.size w w' := by
  have hO : Hid (∀ w, Calls Tryz.prog 52 #[thW k n f s r, thW k' n' f' s' r'] w fun e w' => e = .returned (.int .i64 (cmG k n f s r k' n' f' s' r')) ∧ w' = w) := fun w => order_th k n f s r k' n' f' s' r' hf hf' w
  generalize cmG k n f s r k' n' f' s' r' = c at *
  clear hf hf'
  have hB : Below w.heap.size w w := Below.refl _ _
  go_enter Tryz.func22, Tryz.ntmps22
  go_wp2_with fail
  go_region_with (first | (go_at_call 50; refine (th_calls _ _ _ _ _ _).mono ?_; rintro e w2 ⟨rfl, hb2⟩; obtain ⟨hc2, hf2⟩ := bcell hb2; (first | replace hB := below_call hB hb2 | replace hB := below_call (below_a hB _) hb2 | replace hB := below_call (below_a (below_a hB _) _) hb2 | replace hB := below_call hB.drew hb2 | replace hB := below_call (below_a hB _).drew hb2 | replace hB := below_call (below_a (below_a hB _) _).drew hb2 | replace hB := below_call hB.drew.drew hb2 | replace hB := below_call (below_a hB _).drew.drew hb2 | replace hB := below_call (below_a (below_a hB _) _).drew.drew hb2 | replace hB := below_call hB.drew.drew.drew hb2 | replace hB := below_call (below_a hB _).drew.drew.drew hb2 | replace hB := below_call (below_a (below_a hB _) _).drew.drew.drew hb2 | replace hB := below_call hB.drew.drew.drew.drew hb2 | replace hB := below_call (below_a hB _).drew.drew.drew.drew hb2 | replace hB := below_call (below_a (below_a hB _) _).drew.drew.drew.drew hb2 | replace hB := below_call hB.drew.drew.drew.drew.drew hb2 | replace hB := below_call (below_a hB _).drew.drew.drew.drew.drew hb2 | replace hB := below_call (below_a (below_a hB _) _).drew.drew.drew.drew.drew hb2); clear hb2) | (go_at_call 52; refine (hO.out _).mono ?_; rintro e w2 ⟨rfl, rfl⟩))
  all_goals go_wp2
  all_goals go_ret
  all_goals exact ⟨rfl, by first | exact hB | exact hB.drew | exact hB.drew.drew | exact hB.drew.drew.drew | exact hB.drew.drew.drew.drew⟩
end Go.Proofs.YtiidepafifodjabGreat
