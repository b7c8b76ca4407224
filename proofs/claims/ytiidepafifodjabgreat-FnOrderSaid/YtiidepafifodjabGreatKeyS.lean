import Derived.Test.YtiidepafifodjabGreatKeyOf
import Derived.Deep.QuietTactic
import Derived.BigQuiet
/-! spec.Key, FnExactKey. -/
namespace Go.Proofs.YtiidepafifodjabGreat
open Go.RowKit
attribute [local go_sem] run_store_float

theorem ok3 {n : Int} {f : Nat} {s : ByteArray} {r : Int} (h : okB 3 n f s r = true) : n = 0 ∧ s = ⟨#[]⟩ ∧ r = 0 := by
  simp only [okB, ueB, Bool.and_eq_true] at h
  have h1 := h.1
  simp at h1
  refine ⟨h1.1.1, ?_, h1.2⟩
  have := h1.1.2
  simp only [se, List.isEmpty_iff] at this
  rw [ByteArray.toList_eq] at this
  obtain ⟨⟨l⟩⟩ := s
  have : l = [] := this
  rw [this]

theorem kyG_form2 (k n : Int) (f : Nat) (s : ByteArray) (r : Int) (h : f < 2 ^ 64) : ∃ a b c d t u, kyG k n f s r = gV a b c d t u ∧ d < 2 ^ 64 := by
  unfold kyG fkG
  (repeat' split) <;> first | exact ⟨_, _, _, 0, _, _, rfl, by decide⟩ | exact ⟨_, _, _, _, _, _, rfl, h⟩

end Go.Proofs.YtiidepafifodjabGreat
