import Derived.Test.YtiidepafifodjabGreatThing
/-! The makes of a thing. -/
namespace Go.Proofs.YtiidepafifodjabGreat
open Go.RowKit

theorem iface_ne_nil (k n : Int) (f : Nat) (s : ByteArray) (r : Int) (h : okB k n f s r = true) : ∃ t v, thW k n f s r = .iface t v := by
  simp only [thW, h, if_true]
  unfold thV
  (repeat' split) <;> exact ⟨_, _, rfl⟩

/-- the seven makes of a thing, and nothing -/
theorem th_cases (k n : Int) (f : Nat) (s : ByteArray) (r : Int) :
    (okB k n f s r = false ∧ thW k n f s r = .nilIface) ∨
    (okB k n f s r = true ∧ k = 0 ∧ thW k n f s r = .iface 139 (.agg #[])) ∨
    (okB k n f s r = true ∧ k = 1 ∧ (n = 0 ∨ n = 1) ∧ thW k n f s r = .iface 90 (.bool (n == 1))) ∨
    (okB k n f s r = true ∧ k = 2 ∧ thW k n f s r = .iface 140 (.int .i64 n)) ∨
    (okB k n f s r = true ∧ k = 3 ∧ thW k n f s r = .iface 141 (.float .f64 f)) ∨
    (okB k n f s r = true ∧ k = 4 ∧ s.size ≤ 4000 ∧ thW k n f s r = .iface 142 (.string s)) ∨
    (okB k n f s r = true ∧ k = 8 ∧ 0 ≤ n ∧ n < 15 ∧ thW k n f s r = .iface 145 (.int .i64 n)) ∨
    (okB k n f s r = true ∧ (k = 5 ∨ k = 6 ∨ k = 7) ∧ 0 ≤ r ∧ thW k n f s r = .iface 144 (.agg #[.int .i64 k, .int .i64 r])) := by
  cases h : okB k n f s r
  · exact .inl ⟨rfl, by simp [thW, h]⟩
  · right
    have hu : usB k n s r = true := by simp only [okB, Bool.and_eq_true] at h; exact h.2
    have ht : thW k n f s r = thV k n f s r := by simp [thW, h]
    rw [ht]
    unfold usB at hu
    by_cases c0 : k = 0
    · exact .inl ⟨rfl, c0, by simp [thV, c0]⟩
    right
    rw [if_neg c0] at hu
    by_cases c1 : k = 1
    · rw [if_pos c1] at hu
      exact .inl ⟨rfl, c1, by simpa using hu, by simp [thV, c1]⟩
    right
    rw [if_neg c1] at hu
    by_cases c2 : k = 2
    · exact .inl ⟨rfl, c2, by simp [thV, c2]⟩
    right
    rw [if_neg c2] at hu
    by_cases c3 : k = 3
    · exact .inl ⟨rfl, c3, by simp [thV, c3]⟩
    right
    rw [if_neg c3] at hu
    by_cases c4 : k = 4
    · rw [if_pos c4] at hu
      exact .inl ⟨rfl, c4, by simp at hu; omega, by simp [thV, c4]⟩
    right
    rw [if_neg c4] at hu
    by_cases c8 : k = 8
    · rw [if_neg (by omega), if_pos c8] at hu
      simp at hu
      exact .inl ⟨rfl, c8, hu.1, hu.2, by simp [thV, c8]⟩
    right
    by_cases c5 : k = 5 ∨ k = 6 ∨ k = 7
    · rw [if_pos c5] at hu
      refine ⟨rfl, c5, by simpa using hu, ?_⟩
      unfold thV
      rw [if_neg c0, if_neg c1, if_neg c2, if_neg c3, if_neg c4, if_neg c8]
    · rw [if_neg c5, if_neg c8] at hu
      cases hu

end Go.Proofs.YtiidepafifodjabGreat
