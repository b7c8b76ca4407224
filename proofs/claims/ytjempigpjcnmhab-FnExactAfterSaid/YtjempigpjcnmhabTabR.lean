import Derived.Test.YtjempigpjcnmhabTabQ
/-! Tables: the specification's length. -/
namespace Go.Proofs.Ytjempigpjcnmhab
open Go.RowKit
attribute [local go_sem] run_store_float
attribute [local go_sem ↓] Go.wp_at_zero Go.wp_at_succ

theorem iv_ok (i : Int) : kOk (iv i) = true := by
  have o : okB 2 i 0 ⟨#[]⟩ 0 = true := by simp [okB, ueB, usB, se, fz, order00]
  simp [kOk, kc, kv, iv, o]
theorem at_pos {q : Nat → PD} {n i : Nat} (h : 0 ≤ atI q (mk (iv (i : Int))) n) : pres q n i := by
  unfold atI at h
  cases hf : fnd q (mk (iv (i : Int))) n with
  | none => rw [hf] at h; simp at h
  | some j => obtain ⟨h1, h2⟩ := fnd_at hf; exact ⟨j, h1, h2⟩
theorem at_neg {q : Nat → PD} {n i : Nat} (h : ¬ 0 ≤ atI q (mk (iv (i : Int))) n) : ¬ pres q n i := by
  rintro ⟨j, h1, h2⟩
  unfold atI at h
  cases hf : fnd q (mk (iv (i : Int))) n with
  | none => exact fnd_no hf j h1 h2
  | some j => rw [hf] at h; simp at h
theorem pres_more {q : Nat → PD} {n k : Nat} (h : ∀ i, i < k → pres q n (i + 1)) (hk : pres q n (k + 1)) : ∀ i, i < k + 1 → pres q n (i + 1) := fun i hi => by
  by_cases e : i = k
  · subst e; exact hk
  · exact h i (by omega)

end Go.Proofs.Ytjempigpjcnmhab
