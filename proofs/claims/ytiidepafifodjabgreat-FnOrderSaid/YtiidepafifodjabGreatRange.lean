import Derived.Test.YtiidepafifodjabGreatFloorW
/-! Floats between the bounds of the ints. -/
namespace Go.Proofs.YtiidepafifodjabGreat
open Go.RowKit

theorem ord_some {f g : Nat} (hf : f < 2 ^ 64) (h : FloatKind.f64.format.order f f = some .eq) {s : Bool} {M : Nat} (g1 : Fl.Fin3 g s M) : ∃ d, FloatKind.f64.format.order f g = some d := by
  have h' : Ieee.double.order f f = some .eq := h
  show ∃ d, Ieee.double.order f g = some d
  rcases Fl.sort3 hf with ⟨s, M, hx, _, _⟩ | ⟨s, g2, _⟩ | ⟨s, t, g2⟩
  · exact ⟨_, Fl.order_fin hx g1⟩
  · obtain ⟨m, i, e, _, _⟩ := g1
    unfold Ieee.Format.order
    rw [g2, e]; exact ⟨_, rfl⟩
  · unfold Ieee.Format.order at h'
    rw [g2] at h'
    cases h'

theorem rng_lo (s : Bool) (M E : Nat) (h : compare (Fl.sv s M) (Fl.sv true E) ≠ .lt) : -(E : Int) ≤ Fl.sv s M := by
  refine Int.not_lt.1 fun h' => h (Int.compare_eq_lt.2 ?_)
  simpa [Fl.sv] using h'
theorem rng_hi (s : Bool) (M E : Nat) (h : compare (Fl.sv s M) (Fl.sv false E) = .lt) : Fl.sv s M < (E : Int) := by
  simpa [Fl.sv] using Int.compare_eq_lt.1 h

theorem cut_rng (s : Bool) (M K : Nat) (hK : 0 < K) (h1 : -((2 ^ 63 * K : Nat) : Int) ≤ Fl.sv s M) (h2 : Fl.sv s M < ((2 ^ 63 * K : Nat) : Int)) : -9223372036854775808 ≤ Fl.sv s (M / K) ∧ Fl.sv s (M / K) ≤ 9223372036854775807 := by
  have hd : M / K * K ≤ M := Nat.div_mul_le_self M K
  generalize M / K = q at *
  cases s
  · simp only [Fl.sv, Bool.false_eq_true, if_false] at *
    have : q * K < 2 ^ 63 * K := by omega
    have := Nat.lt_of_mul_lt_mul_right this
    omega
  · simp only [Fl.sv, if_true] at *
    have : q * K ≤ 2 ^ 63 * K := by omega
    have := Nat.le_of_mul_le_mul_right this hK
    omega

/-- between the bounds a float can be cut to an int -/
theorem cut_int {f : Nat} (hf : f < 2 ^ 64) (h1 : FloatKind.f64.format.order f ntwo63 = some .gt ∨ FloatKind.f64.format.order f ntwo63 = some .eq) (h2 : FloatKind.f64.format.order f two63 = some .lt) : ∃ v, floatToIntVal .f64 f .i64 = some v := by
  have h1' : Ieee.double.order f ntwo63 = some .gt ∨ Ieee.double.order f ntwo63 = some .eq := h1
  have h2' : Ieee.double.order f two63 = some .lt := h2
  rcases Fl.sort3 hf with ⟨s, M, hx, hr, _⟩ | ⟨s, g2, _⟩ | ⟨s, t, g2⟩
  · rw [Fl.order_fin hx Fl.fin_two63] at h2'
    rw [Fl.order_fin hx Fl.fin_ntwo63] at h1'
    have a := rng_hi _ _ _ (Option.some.inj h2')
    have b : -((2 ^ 63 * 2 ^ 1074 : Nat) : Int) ≤ Fl.sv s M := rng_lo _ _ _ (by
      rcases h1' with h | h <;> rw [Option.some.inj h] <;> decide)
    obtain ⟨c, d⟩ := cut_rng s M _ Fl.K_pos b a
    exact ⟨_, Fl.toInt_gen hx c d⟩
  · obtain ⟨m1, i1, z2, _, _⟩ := Fl.fin_two63
    obtain ⟨m2, i2, z3, _, _⟩ := Fl.fin_ntwo63
    exfalso
    unfold Ieee.Format.order at h1' h2'
    rw [g2, z2] at h2'
    rw [g2, z3] at h1'
    cases s
    · cases h2'
    · rcases h1' with h | h <;> cases h
  · exfalso
    unfold Ieee.Format.order at h2'
    rw [g2] at h2'
    cases h2'

/-- between the bounds the floor of a float can be cut to an int -/
theorem floor_cut {f : Nat} (hf : f < 2 ^ 64) (h1 : FloatKind.f64.format.order f ntwo63 = some .gt ∨ FloatKind.f64.format.order f ntwo63 = some .eq) (h2 : FloatKind.f64.format.order f two63 = some .lt) : ∃ v, floatToIntVal .f64 (Fl.floorW f) .i64 = some v := by
  have h1' : Ieee.double.order f ntwo63 = some .gt ∨ Ieee.double.order f ntwo63 = some .eq := h1
  have h2' : Ieee.double.order f two63 = some .lt := h2
  rcases Fl.sort3 hf with ⟨s, M, hx, hr, _⟩ | ⟨s, g2, _⟩ | ⟨s, t, g2⟩
  · rw [Fl.order_fin hx Fl.fin_two63] at h2'
    rw [Fl.order_fin hx Fl.fin_ntwo63] at h1'
    have a := rng_hi _ _ _ (Option.some.inj h2')
    have b : -((2 ^ 63 * 2 ^ 1074 : Nat) : Int) ≤ Fl.sv s M := rng_lo _ _ _ (by
      rcases h1' with h | h <;> rw [Option.some.inj h] <;> decide)
    exact Fl.floor_toInt hx hr b a
  · obtain ⟨m1, i1, z2, _, _⟩ := Fl.fin_two63
    obtain ⟨m2, i2, z3, _, _⟩ := Fl.fin_ntwo63
    exfalso
    unfold Ieee.Format.order at h1' h2'
    rw [g2, z2] at h2'
    rw [g2, z3] at h1'
    cases s
    · cases h2'
    · rcases h1' with h | h <;> cases h
  · exfalso
    unfold Ieee.Format.order at h2'
    rw [g2] at h2'
    cases h2'
end Go.Proofs.YtiidepafifodjabGreat
