import Derived.Test.YtiidepafifodjaaWords
import Derived.Test.YtiidepafifodjaaBinInt
/-! Plain facts on wrapped ints for FnNumbers. -/
namespace Go.Proofs.Ytiidepafifodjaa
open Go.RowKit

theorem wrap_ex (x : Int) : ∃ j, wrap64 x = x + 18446744073709551616 * j := ⟨-((x + 9223372036854775808) / 18446744073709551616), by unfold wrap64; omega⟩

theorem wrap_eq {x y j : Int} (h : x = y + 18446744073709551616 * j) (hy : I64 y) : wrap64 x = y := by
  unfold I64 at hy
  unfold wrap64
  omega

theorem mul_shift (b x j M : Int) : b * (x + M * j) = b * x + M * (b * j) := by rw [Int.mul_add, Int.mul_left_comm]

theorem tmod_facts (a b : Int) : (0 ≤ a → 0 ≤ a.tmod b) ∧ (a ≤ 0 → a.tmod b ≤ 0) ∧ (0 < b → -b < a.tmod b ∧ a.tmod b < b) ∧ (b < 0 → b < a.tmod b ∧ a.tmod b < -b) := by
  refine ⟨Int.tmod_nonneg b, fun h => ?_, fun h => ⟨Int.lt_tmod_of_pos a h, Int.tmod_lt_of_pos a h⟩, fun h => ?_⟩
  · have := Int.tmod_nonneg b (show 0 ≤ -a by omega)
    rw [Int.neg_tmod] at this; omega
  · have h1 := Int.lt_tmod_of_pos a (show 0 < -b by omega)
    have h2 := Int.tmod_lt_of_pos a (show 0 < -b by omega)
    rw [Int.tmod_neg] at h1 h2
    omega

theorem num_div (a b : Int) (ha : I64 a) (hb : I64 b) (b0 : b ≠ 0) : wrap64 (wrap64 (fdv a b * b) + wrap64 (a - wrap64 (b * fdv a b))) = a ∧
    ((0 < b ∧ 0 ≤ wrap64 (a - wrap64 (b * fdv a b)) ∧ wrap64 (a - wrap64 (b * fdv a b)) < b) ∨ (b < 0 ∧ b < wrap64 (a - wrap64 (b * fdv a b)) ∧ wrap64 (a - wrap64 (b * fdv a b)) ≤ 0)) := by
  have hm := Int.mul_tdiv_add_tmod a b
  obtain ⟨f1, f2, f3, f4⟩ := tmod_facts a b
  obtain ⟨x, j, hQ, hx⟩ : ∃ x j, fdv a b = x + 18446744073709551616 * j ∧ ((x = a.tdiv b - 1 ∧ a.tmod b ≠ 0 ∧ ¬ ((a < 0) ↔ (b < 0))) ∨ (x = a.tdiv b ∧ (a.tmod b = 0 ∨ ((a < 0) ↔ (b < 0))))) := by
    unfold fdv
    obtain ⟨j1, h1⟩ := wrap_ex (a.tdiv b)
    obtain ⟨j2, h2⟩ := wrap_ex (wrap64 (a.tdiv b) - 1)
    by_cases hc : a.tmod b ≠ 0 ∧ ¬ ((a < 0) ↔ (b < 0))
    · rw [if_pos hc]
      exact ⟨a.tdiv b - 1, j1 + j2, by rw [h2, h1]; omega, .inl ⟨rfl, hc⟩⟩
    · rw [if_neg hc]
      refine ⟨a.tdiv b, j1, h1, .inr ⟨rfl, ?_⟩⟩
      by_cases h0 : a.tmod b = 0
      · exact .inl h0
      · exact .inr (Decidable.not_not.1 fun hn => hc ⟨h0, hn⟩)
  have hbq : b * fdv a b = b * x + 18446744073709551616 * (b * j) := by rw [hQ, mul_shift]
  have hqb : fdv a b * b = b * x + 18446744073709551616 * (b * j) := by rw [Int.mul_comm, hbq]
  rw [hqb, hbq]
  have hbx : (b * x = a - a.tmod b - b ∧ a.tmod b ≠ 0 ∧ ¬ ((a < 0) ↔ (b < 0))) ∨ (b * x = a - a.tmod b ∧ (a.tmod b = 0 ∨ ((a < 0) ↔ (b < 0)))) := by
    rcases hx with ⟨h, h'⟩ | ⟨h, h'⟩
    · left; refine ⟨?_, h'⟩; rw [h, Int.mul_sub, Int.mul_one]; omega
    · right; refine ⟨?_, h'⟩; rw [h]; omega
  generalize b * x = y at *
  generalize b * j = z at *
  generalize a.tmod b = r at *
  obtain ⟨j3, h3⟩ := wrap_ex (y + 18446744073709551616 * z)
  have hR : wrap64 (a - wrap64 (y + 18446744073709551616 * z)) = a - y := by
    refine wrap_eq (j := -(z + j3)) (by rw [h3]; omega) ?_
    unfold I64 at *
    rcases hbx with ⟨h, h', h''⟩ | ⟨h, h'⟩ <;> omega
  rw [hR]
  refine ⟨?_, ?_⟩
  · refine wrap_eq (j := z + j3) (by rw [h3]; omega) ha
  · rcases hbx with ⟨h, h', h''⟩ | ⟨h, h'⟩ <;> omega

theorem num_sub (a b : Int) (ha : I64 a) : wrap64 (wrap64 (a + b) - b) = a := by
  obtain ⟨j, h⟩ := wrap_ex (a + b)
  exact wrap_eq (j := j) (by rw [h]; omega) ha

theorem wrap_cong {x y j : Int} (h : x = y + 18446744073709551616 * j) : wrap64 x = wrap64 y := by unfold wrap64; omega

theorem num_mul (a b c : Int) : wrap64 (wrap64 (a * c) + wrap64 (b * c)) = wrap64 (wrap64 (a + b) * c) := by
  obtain ⟨j1, h1⟩ := wrap_ex (a * c)
  obtain ⟨j2, h2⟩ := wrap_ex (b * c)
  obtain ⟨j3, h3⟩ := wrap_ex (a + b)
  rw [h1, h2, h3]
  have e : (a + b + 18446744073709551616 * j3) * c = a * c + b * c + 18446744073709551616 * (c * j3) := by
    rw [Int.mul_comm _ c, mul_shift, Int.mul_add, Int.mul_comm c a, Int.mul_comm c b]
  rw [e]
  exact wrap_cong (j := j1 + j2 - c * j3) (by omega)
end Go.Proofs.Ytiidepafifodjaa
