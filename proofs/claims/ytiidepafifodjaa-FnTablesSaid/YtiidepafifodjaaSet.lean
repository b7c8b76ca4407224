import Derived.Test.YtiidepafifodjaaPlain
import Derived.Test.YtiidepafifodjaaOrder
import Derived.Deep.RegionWith
/-! Six stores into one's own result, and the frame. -/
namespace Go.Proofs.Ytiidepafifodjaa
open Go.RowKit
theorem set6 {B blk : Nat} {a w : World} (h : Below B a w) (hp : B ≤ blk) (v0 v1 v2 v3 v4 v5 : Value) :
    Below B a ((((((w.setCell ⟨blk, 0, none⟩ v0).setCell ⟨blk, 1, none⟩ v1).setCell ⟨blk, 2, none⟩ v2).setCell ⟨blk, 3, none⟩ v3).setCell ⟨blk, 4, none⟩ v4).setCell ⟨blk, 5, none⟩ v5) :=
  (((((h.setCell (p := ⟨blk, 0, none⟩) hp v0).setCell (p := ⟨blk, 1, none⟩) hp v1).setCell (p := ⟨blk, 2, none⟩) hp v2).setCell (p := ⟨blk, 3, none⟩) hp v3).setCell (p := ⟨blk, 4, none⟩) hp v4).setCell (p := ⟨blk, 5, none⟩) hp v5
theorem set5 {B blk : Nat} {a w : World} (h : Below B a w) (hp : B ≤ blk) (v0 v1 v2 v3 v4 : Value) :
    Below B a (((((w.setCell ⟨blk, 0, none⟩ v0).setCell ⟨blk, 1, none⟩ v1).setCell ⟨blk, 2, none⟩ v2).setCell ⟨blk, 3, none⟩ v3).setCell ⟨blk, 4, none⟩ v4) :=
  ((((h.setCell (p := ⟨blk, 0, none⟩) hp v0).setCell (p := ⟨blk, 1, none⟩) hp v1).setCell (p := ⟨blk, 2, none⟩) hp v2).setCell (p := ⟨blk, 3, none⟩) hp v3).setCell (p := ⟨blk, 4, none⟩) hp v4
theorem below_alloc2 (w : World) (o o' : Obj) : Below w.heap.size w ((w.alloc o).alloc o') := (below_alloc w o).alloc (by simp) _
theorem below_alloc3 (w : World) (o o' o'' : Obj) : Below w.heap.size w (((w.alloc o).alloc o').alloc o'') := (below_alloc2 w o o').alloc (by simp; omega) _
theorem below_a {w u : World} (h : Below w.heap.size w u) (o : Obj) : Below w.heap.size w (u.alloc o) := h.alloc h.size _
end Go.Proofs.Ytiidepafifodjaa

/-! impl.Compare. -/
namespace Go.Proofs.Ytiidepafifodjaa
open Go.RowKit

def cmG (k n : Int) (f : Nat) (s : ByteArray) (r : Int) (k' n' : Int) (f' : Nat) (s' : ByteArray) (r' : Int) : Int :=
  if okB k n f s r = false ∨ okB k' n' f' s' r' = false then 3
  else if k = 4 ∧ k' = 4 then cbs s s'
  else if k = 2 ∧ k' = 2 then cmpI n n'
  else if k = 2 ∧ k' = 3 then mixG n f'
  else if k = 3 ∧ k' = 2 then mixR n' f
  else if k = 3 ∧ k' = 3 then fltG f f'
  else 3

theorem order_th (k n : Int) (f : Nat) (s : ByteArray) (r : Int) (k' n' : Int) (f' : Nat) (s' : ByteArray) (r' : Int) (hf : f < 2 ^ 64) (hf' : f' < 2 ^ 64) (w : World) :
    Calls Try.prog 68 #[thW k n f s r, thW k' n' f' s' r'] w fun e w' => e = .returned (.int .i64 (cmG k n f s r k' n' f' s' r')) ∧ w' = w := by
  rcases th_cases k n f s r with ⟨h, e⟩ | ⟨h, c, e⟩ | ⟨h, c, _, e⟩ | ⟨h, c, e⟩ | ⟨h, c, e⟩ | ⟨h, c, _, e⟩ | ⟨h, c, _, _, e⟩ | ⟨h, c, _, e⟩
  · rw [e, show cmG k n f s r k' n' f' s' r' = 3 by unfold cmG; rw [if_pos (.inl h)]]; exact order_nilI _ w
  · rw [e]
    have e3 : cmG k n f s r k' n' f' s' r' = 3 := by
      unfold cmG
      by_cases h' : okB k' n' f' s' r' = false
      · rw [if_pos (.inr h')]
      · rw [if_neg (by rw [h]; simpa using h'), if_neg (by omega), if_neg (by omega), if_neg (by omega), if_neg (by omega), if_neg (by omega)]
    rw [e3]; exact order_absent _ w
  · rw [e]
    have e3 : cmG k n f s r k' n' f' s' r' = 3 := by
      unfold cmG
      by_cases h' : okB k' n' f' s' r' = false
      · rw [if_pos (.inr h')]
      · rw [if_neg (by rw [h]; simpa using h'), if_neg (by omega), if_neg (by omega), if_neg (by omega), if_neg (by omega), if_neg (by omega)]
    rw [e3]; exact order_flag _ _ w
  · rw [e]
    rcases th_cases k' n' f' s' r' with ⟨h', e'⟩ | ⟨h', c', e'⟩ | ⟨h', c', _, e'⟩ | ⟨h', c', e'⟩ | ⟨h', c', e'⟩ | ⟨h', c', _, e'⟩ | ⟨h', c', _, _, e'⟩ | ⟨h', c', _, e'⟩
    · rw [e', show cmG k n f s r k' n' f' s' r' = 3 by unfold cmG; rw [if_pos (.inr h')]]; exact order_whole n _ _ (fun w => orderWhole_nilI n  w) w
    · rw [e', show cmG k n f s r k' n' f' s' r' = 3 by unfold cmG; rw [if_neg (by rw [h, h']; decide), if_neg (by omega), if_neg (by omega), if_neg (by omega), if_neg (by omega), if_neg (by omega)]]; exact order_whole n _ _ (fun w => orderWhole_absent n  w) w
    · rw [e', show cmG k n f s r k' n' f' s' r' = 3 by unfold cmG; rw [if_neg (by rw [h, h']; decide), if_neg (by omega), if_neg (by omega), if_neg (by omega), if_neg (by omega), if_neg (by omega)]]; exact order_whole n _ _ (fun w => orderWhole_flag n _ w) w
    · rw [e', show cmG k n f s r k' n' f' s' r' = cmpI n n' by unfold cmG; rw [if_neg (by rw [h, h']; decide), if_neg (by omega), if_pos ⟨c, c'⟩]]; exact order_whole n _ _ (fun w => orderWhole_whole n _ w) w
    · rw [e', show cmG k n f s r k' n' f' s' r' = mixG n f' by unfold cmG; rw [if_neg (by rw [h, h']; decide), if_neg (by omega), if_neg (by omega), if_pos ⟨c, c'⟩]]; exact order_whole n _ _ (fun w => orderWhole_float n _ hf' w) w
    · rw [e', show cmG k n f s r k' n' f' s' r' = 3 by unfold cmG; rw [if_neg (by rw [h, h']; decide), if_neg (by omega), if_neg (by omega), if_neg (by omega), if_neg (by omega), if_neg (by omega)]]; exact order_whole n _ _ (fun w => orderWhole_word n _ w) w
    · rw [e', show cmG k n f s r k' n' f' s' r' = 3 by unfold cmG; rw [if_neg (by rw [h, h']; decide), if_neg (by omega), if_neg (by omega), if_neg (by omega), if_neg (by omega), if_neg (by omega)]]; exact order_whole n _ _ (fun w => orderWhole_builtin n _ w) w
    · rw [e', show cmG k n f s r k' n' f' s' r' = 3 by unfold cmG; rw [if_neg (by rw [h, h']; decide), if_neg (by omega), if_neg (by omega), if_neg (by omega), if_neg (by omega), if_neg (by omega)]]; exact order_whole n _ _ (fun w => orderWhole_made n _ _ w) w
  · rw [e]
    rcases th_cases k' n' f' s' r' with ⟨h', e'⟩ | ⟨h', c', e'⟩ | ⟨h', c', _, e'⟩ | ⟨h', c', e'⟩ | ⟨h', c', e'⟩ | ⟨h', c', _, e'⟩ | ⟨h', c', _, _, e'⟩ | ⟨h', c', _, e'⟩
    · rw [e', show cmG k n f s r k' n' f' s' r' = 3 by unfold cmG; rw [if_pos (.inr h')]]; exact order_float f _ _ (fun w => orderFloat_nilI f  w) w
    · rw [e', show cmG k n f s r k' n' f' s' r' = 3 by unfold cmG; rw [if_neg (by rw [h, h']; decide), if_neg (by omega), if_neg (by omega), if_neg (by omega), if_neg (by omega), if_neg (by omega)]]; exact order_float f _ _ (fun w => orderFloat_absent f  w) w
    · rw [e', show cmG k n f s r k' n' f' s' r' = 3 by unfold cmG; rw [if_neg (by rw [h, h']; decide), if_neg (by omega), if_neg (by omega), if_neg (by omega), if_neg (by omega), if_neg (by omega)]]; exact order_float f _ _ (fun w => orderFloat_flag f _ w) w
    · rw [e', show cmG k n f s r k' n' f' s' r' = mixR n' f by unfold cmG; rw [if_neg (by rw [h, h']; decide), if_neg (by omega), if_neg (by omega), if_neg (by omega), if_pos ⟨c, c'⟩]]; exact order_float f _ _ (fun w => orderFloat_whole f _ hf w) w
    · rw [e', show cmG k n f s r k' n' f' s' r' = fltG f f' by unfold cmG; rw [if_neg (by rw [h, h']; decide), if_neg (by omega), if_neg (by omega), if_neg (by omega), if_neg (by omega), if_pos ⟨c, c'⟩]]; exact order_float f _ _ (fun w => orderFloat_float f _ hf hf' w) w
    · rw [e', show cmG k n f s r k' n' f' s' r' = 3 by unfold cmG; rw [if_neg (by rw [h, h']; decide), if_neg (by omega), if_neg (by omega), if_neg (by omega), if_neg (by omega), if_neg (by omega)]]; exact order_float f _ _ (fun w => orderFloat_word f _ w) w
    · rw [e', show cmG k n f s r k' n' f' s' r' = 3 by unfold cmG; rw [if_neg (by rw [h, h']; decide), if_neg (by omega), if_neg (by omega), if_neg (by omega), if_neg (by omega), if_neg (by omega)]]; exact order_float f _ _ (fun w => orderFloat_builtin f _ w) w
    · rw [e', show cmG k n f s r k' n' f' s' r' = 3 by unfold cmG; rw [if_neg (by rw [h, h']; decide), if_neg (by omega), if_neg (by omega), if_neg (by omega), if_neg (by omega), if_neg (by omega)]]; exact order_float f _ _ (fun w => orderFloat_made f _ _ w) w
  · rw [e]
    rcases th_cases k' n' f' s' r' with ⟨h', e'⟩ | ⟨h', c', e'⟩ | ⟨h', c', _, e'⟩ | ⟨h', c', e'⟩ | ⟨h', c', e'⟩ | ⟨h', c', _, e'⟩ | ⟨h', c', _, _, e'⟩ | ⟨h', c', _, e'⟩
    · rw [e', show cmG k n f s r k' n' f' s' r' = 3 by unfold cmG; rw [if_pos (.inr h')]]; exact order_word_nilI s  w
    · rw [e', show cmG k n f s r k' n' f' s' r' = 3 by unfold cmG; rw [if_neg (by rw [h, h']; decide), if_neg (by omega), if_neg (by omega), if_neg (by omega), if_neg (by omega), if_neg (by omega)]]; exact order_word_absent s  w
    · rw [e', show cmG k n f s r k' n' f' s' r' = 3 by unfold cmG; rw [if_neg (by rw [h, h']; decide), if_neg (by omega), if_neg (by omega), if_neg (by omega), if_neg (by omega), if_neg (by omega)]]; exact order_word_flag s _ w
    · rw [e', show cmG k n f s r k' n' f' s' r' = 3 by unfold cmG; rw [if_neg (by rw [h, h']; decide), if_neg (by omega), if_neg (by omega), if_neg (by omega), if_neg (by omega), if_neg (by omega)]]; exact order_word_whole s _ w
    · rw [e', show cmG k n f s r k' n' f' s' r' = 3 by unfold cmG; rw [if_neg (by rw [h, h']; decide), if_neg (by omega), if_neg (by omega), if_neg (by omega), if_neg (by omega), if_neg (by omega)]]; exact order_word_float s _ w
    · rw [e', show cmG k n f s r k' n' f' s' r' = cbs s s' by unfold cmG; rw [if_neg (by rw [h, h']; decide), if_pos ⟨c, c'⟩]]; exact order_word_word s _ w
    · rw [e', show cmG k n f s r k' n' f' s' r' = 3 by unfold cmG; rw [if_neg (by rw [h, h']; decide), if_neg (by omega), if_neg (by omega), if_neg (by omega), if_neg (by omega), if_neg (by omega)]]; exact order_word_builtin s _ w
    · rw [e', show cmG k n f s r k' n' f' s' r' = 3 by unfold cmG; rw [if_neg (by rw [h, h']; decide), if_neg (by omega), if_neg (by omega), if_neg (by omega), if_neg (by omega), if_neg (by omega)]]; exact order_word_made s _ _ w
  · rw [e]
    have e3 : cmG k n f s r k' n' f' s' r' = 3 := by
      unfold cmG
      by_cases h' : okB k' n' f' s' r' = false
      · rw [if_pos (.inr h')]
      · rw [if_neg (by rw [h]; simpa using h'), if_neg (by omega), if_neg (by omega), if_neg (by omega), if_neg (by omega), if_neg (by omega)]
    rw [e3]; exact order_builtin _ _ w
  · rw [e]
    have e3 : cmG k n f s r k' n' f' s' r' = 3 := by
      unfold cmG
      by_cases h' : okB k' n' f' s' r' = false
      · rw [if_pos (.inr h')]
      · rw [if_neg (by rw [h]; simpa using h'), if_neg (by omega), if_neg (by omega), if_neg (by omega), if_neg (by omega), if_neg (by omega)]
    rw [e3]; exact order_made _ _ _ w

set_option maxRecDepth 100000 in
set_option maxHeartbeats 4000000 in
theorem implCompare_calls (k n : Int) (f : Nat) (s : ByteArray) (r : Int) (k' n' : Int) (f' : Nat) (s' : ByteArray) (r' : Int) (hf : f < 2 ^ 64) (hf' : f' < 2 ^ 64) (w : World) :
    Calls Try.prog 43 #[vOf k n f s r, vOf k' n' f' s' r'] w fun e w' => e = .returned (.int .i64 (cmG k n f s r k' n' f' s' r')) ∧ Below w.heap.size w w' := by
  have hO : Hid (∀ w, Calls Try.prog 68 #[thW k n f s r, thW k' n' f' s' r'] w fun e w' => e = .returned (.int .i64 (cmG k n f s r k' n' f' s' r')) ∧ w' = w) := fun w => order_th k n f s r k' n' f' s' r' hf hf' w
  generalize cmG k n f s r k' n' f' s' r' = c at *
  clear hf hf'
  have hB : Below w.heap.size w w := Below.refl _ _
  go_enter Try.func43, Try.ntmps43
  go_wp2_with fail
  go_region_with (first | (go_at_call 60; refine (th_calls _ _ _ _ _ _).mono ?_; rintro e w2 ⟨rfl, hb2⟩; obtain ⟨hc2, hf2⟩ := bcell hb2; (first | replace hB := below_call hB hb2 | replace hB := below_call (below_a hB _) hb2 | replace hB := below_call (below_a (below_a hB _) _) hb2 | replace hB := below_call hB.drew hb2 | replace hB := below_call (below_a hB _).drew hb2 | replace hB := below_call (below_a (below_a hB _) _).drew hb2 | replace hB := below_call hB.drew.drew hb2 | replace hB := below_call (below_a hB _).drew.drew hb2 | replace hB := below_call (below_a (below_a hB _) _).drew.drew hb2 | replace hB := below_call hB.drew.drew.drew hb2 | replace hB := below_call (below_a hB _).drew.drew.drew hb2 | replace hB := below_call (below_a (below_a hB _) _).drew.drew.drew hb2 | replace hB := below_call hB.drew.drew.drew.drew hb2 | replace hB := below_call (below_a hB _).drew.drew.drew.drew hb2 | replace hB := below_call (below_a (below_a hB _) _).drew.drew.drew.drew hb2 | replace hB := below_call hB.drew.drew.drew.drew.drew hb2 | replace hB := below_call (below_a hB _).drew.drew.drew.drew.drew hb2 | replace hB := below_call (below_a (below_a hB _) _).drew.drew.drew.drew.drew hb2); clear hb2) | (go_at_call 68; refine (hO.out _).mono ?_; rintro e w2 ⟨rfl, rfl⟩))
  all_goals go_wp2
  all_goals go_ret
  all_goals exact ⟨rfl, by first | exact hB | exact hB.drew | exact hB.drew.drew | exact hB.drew.drew.drew | exact hB.drew.drew.drew.drew⟩
end Go.Proofs.Ytiidepafifodjaa
