import Derived.Test.YtiidepafifodjabGreatFl
import Derived.Laws.FloatArith
/-! The floor of a float: what the program's library gives, and what the model's own steps give. -/
namespace Go.Proofs.YtiidepafifodjabGreat.Fl
open Ieee

/-- the word of the floor -/
def floorW (x : Nat) : Nat := double.write ((double.read x).integral .down)

theorem pow_le {a b : Nat} (h : a ≤ b) : 2 ^ a ≤ 2 ^ b := Nat.pow_le_pow_right (by omega) h
theorem pow_join {a b c : Nat} (h : a + b = c) : 2 ^ a * 2 ^ b = 2 ^ c := (pow_split h).symm
theorem pow_turn {a b c d : Nat} (h : a + b = c + d) : 2 ^ a * 2 ^ b = 2 ^ c * 2 ^ d := by rw [← Nat.pow_add, ← Nat.pow_add, h]

theorem floorW_fin {x : Nat} {s : Bool} {M : Nat} (hx : Fin3 x s M) : floorW x = enc s ((M / 2 ^ 1074 + (s && M % 2 ^ 1074 != 0).toNat) * 2 ^ 1074) := integral_down hx

/-- where nothing is left over the floor is the float itself -/
theorem floorW_whole {x : Nat} {s : Bool} {M : Nat} (hx : Fin3 x s M) (he : x = enc s M) (h : M % 2 ^ 1074 = 0) : floorW x = x := by
  rw [floorW_fin hx, h]
  have e : (s && (0 : Nat) != 0).toNat = 0 := by simp
  rw [e, Nat.add_zero, Nat.div_mul_cancel (Nat.dvd_of_mod_eq_zero h)]
  exact he.symm

theorem floorW_inf {x : Nat} {s : Bool} (h : double.read x = .infinity s) (he : x = double.word s double.infRung) : floorW x = x := by
  unfold floorW
  rw [h]
  exact he.symm

/-- a great float is whole -/
theorem rep_big {M : Nat} (h : rep M) (hb : 2 ^ 1127 ≤ M) : M % 2 ^ 1074 = 0 := by
  obtain ⟨q, a, hq, ha, rfl⟩ := h
  have : 1074 ≤ a := by
    refine Nat.le_of_not_lt fun hlt => ?_
    have h1 : q * 2 ^ a < 2 ^ 53 * 2 ^ a := Nat.mul_lt_mul_of_pos_right hq (Nat.two_pow_pos a)
    rw [← Nat.pow_add] at h1
    have h0 : 53 + a ≤ 1127 := by clear hb h1; omega
    have h2 := pow_le h0
    generalize 2 ^ 1127 = E at hb h2
    exact Nat.lt_irrefl _ (Nat.lt_of_lt_of_le (Nat.lt_of_lt_of_le h1 h2) hb)
  rw [pow_split (show a - 1074 + 1074 = a by omega), ← Nat.mul_assoc, Nat.mul_mod_left]

/-- the words of 0, 1, two to the 63 and its opposite -/
theorem fin_zero : Fin3 0 false 0 := ⟨0, -1074, by decide +kernel, by omega, by omega⟩
theorem fin_one : Fin3 4607182418800017408 false (2 ^ 1074) := ⟨2 ^ 52, -52, by decide +kernel, by omega, (pow_join (a := 52) (b := ((-52 : Int) + 1074).toNat) (c := 1074) (by omega))⟩
theorem fin_two63 : Fin3 4890909195324358656 false (2 ^ 63 * 2 ^ 1074) := ⟨2 ^ 52, 11, by decide +kernel, by omega, (pow_turn (a := 52) (b := ((11 : Int) + 1074).toNat) (c := 63) (d := 1074) (by omega))⟩
theorem fin_ntwo63 : Fin3 14114281232179134464 true (2 ^ 63 * 2 ^ 1074) := ⟨2 ^ 52, 11, by decide +kernel, by omega, (pow_turn (a := 52) (b := ((11 : Int) + 1074).toNat) (c := 63) (d := 1074) (by omega))⟩

/-- less than two to the 63 in magnitude: cut to a whole number it fits -/
theorem toInt_val {x : Nat} {s : Bool} {M : Nat} (hx : Fin3 x s M) (h : M < 2 ^ 63 * 2 ^ 1074) : floatToIntVal .f64 x .i64 = some (sv s (M / 2 ^ 1074)) := by
  have hq : M / 2 ^ 1074 < 2 ^ 63 := (Nat.div_lt_iff_lt_mul (Nat.two_pow_pos 1074)).2 h
  unfold floatToIntVal
  have e : (FloatKind.f64.decode x).toInt .zero = some (sv s (M / 2 ^ 1074)) := toInt_zero hx
  rw [e]
  generalize M / 2 ^ 1074 = q at *
  have hr : IntKind.i64.min ≤ sv s q ∧ sv s q ≤ IntKind.i64.max := by
    have h1 : IntKind.i64.min = -9223372036854775808 := by decide
    have h2 : IntKind.i64.max = 9223372036854775807 := by decide
    rw [h1, h2]
    unfold sv
    cases s <;> simp only [if_true, if_false, Bool.false_eq_true] <;> omega
  simp only [hr, and_self, if_true]

/-- a small enough whole number made a float -/
theorem ofInt (n : Int) : floatOfInt .f64 n = enc (decide (n < 0)) (n.natAbs * 2 ^ 1074) := nearest_int n

theorem toInt_gen {x : Nat} {s : Bool} {M : Nat} (hx : Fin3 x s M) (h1 : -9223372036854775808 ≤ sv s (M / 2 ^ 1074)) (h2 : sv s (M / 2 ^ 1074) ≤ 9223372036854775807) : floatToIntVal .f64 x .i64 = some (sv s (M / 2 ^ 1074)) := by
  unfold floatToIntVal
  have e : (FloatKind.f64.decode x).toInt .zero = some (sv s (M / 2 ^ 1074)) := toInt_zero hx
  rw [e]
  generalize sv s (M / 2 ^ 1074) = q at *
  have hr : IntKind.i64.min ≤ q ∧ q ≤ IntKind.i64.max := by
    have g1 : IntKind.i64.min = -9223372036854775808 := by decide
    have g2 : IntKind.i64.max = 9223372036854775807 := by decide
    rw [g1, g2]
    exact ⟨h1, h2⟩
  simp only [hr, and_self, if_true]

theorem K_pos : 0 < 2 ^ 1074 := Nat.two_pow_pos 1074

theorem sv_natAbs (s : Bool) (q : Nat) : (sv s q).natAbs = q := by unfold sv; cases s <;> simp

theorem div_mod (M k : Nat) : M / k * k + M % k = M := Nat.div_add_mod' M k

/-- the model's own floor of a float between the two bounds: cut to a whole number, and one less where that is too much -/
theorem l1floor_mid {x : Nat} {s : Bool} {M : Nat} (hx : Fin3 x s M) (hr : rep M) (h0 : M ≠ 0) (hb : M < 2 ^ 63 * 2 ^ 1074) :
    ∃ n, floatToIntVal .f64 x .i64 = some n ∧ ((double.order (floatOfInt .f64 n) x ≠ some .gt ∧ floatOfInt .f64 n = floorW x) ∨ (double.order (floatOfInt .f64 n) x = some .gt ∧ floatBits .sub .f64 (floatOfInt .f64 n) 4607182418800017408 = some (floorW x))) := by
  refine ⟨_, toInt_val hx hb, ?_⟩
  rw [ofInt, sv_natAbs, floorW_fin hx]
  have hrt := rep_trunc hr
  have hdm := div_mod M (2 ^ 1074)
  have hsm := whole_small hr
  have hK := K_pos
  have hone : Fin3 4607182418800017408 false (2 ^ 1074) := fin_one
  have ht := fun b => read_enc b hrt
  generalize 2 ^ 1074 = K at *
  generalize hq : M / K = q at *
  generalize hm : M % K = m at *
  cases s
  · left
    have e1 : decide (sv false q < 0) = false := by simp [sv]
    rw [e1]
    have e2 : (q + (false && m != 0).toNat) = q := by simp
    rw [e2]
    refine ⟨?_, rfl⟩
    rw [order_fin (ht false) hx]
    intro h
    have := Int.compare_eq_gt.1 (Option.some.inj h)
    simp only [sv, Bool.false_eq_true, if_false] at this
    omega
  · by_cases hm0 : m = 0
    · left
      have hq0 : q ≠ 0 := by intro h; rw [h, hm0] at hdm; simp at hdm; omega
      have e1 : decide (sv true q < 0) = true := by simp [sv]; omega
      rw [e1]
      have e2 : (q + (true && m != 0).toNat) = q := by simp [hm0]
      rw [e2]
      refine ⟨?_, rfl⟩
      rw [order_fin (ht true) hx]
      intro h
      have := Int.compare_eq_gt.1 (Option.some.inj h)
      simp only [sv, if_true] at this
      omega
    · right
      have e2 : (q + (true && m != 0).toNat) = q + 1 := by simp [hm0]
      rw [e2]
      have hv : ∀ b, b = decide (sv true q < 0) → sv b (q * K) = -((q * K : Nat) : Int) := by
        intro b hb
        subst hb
        by_cases hq0 : q = 0
        · subst hq0; simp [sv]
        · have : decide (sv true q < 0) = true := by simp [sv]; omega
          rw [this]; simp [sv]
      refine ⟨?_, ?_⟩
      · rw [order_fin (ht _) hx, hv _ rfl]
        congr 1
        refine Int.compare_eq_gt.2 ?_
        simp only [sv, if_true]
        omega
      · show double.sub _ _ = _
        have hd : sv (decide (sv true q < 0)) (q * K) - sv false K = -(((q + 1) * K : Nat) : Int) := by
          rw [hv _ rfl, Nat.add_mul]; simp [sv]; omega
        have hp : 0 < (q + 1) * K := Nat.mul_pos (by omega) hK
        rw [sub_fin (ht _) hone (by rw [hd]; omega), hd]
        generalize (q + 1) * K = Z at hp ⊢
        congr 2
        · simp; omega
        · simp

/-- the floor of a float between the bounds, as a whole number -/
theorem floor_toInt {x : Nat} {s : Bool} {M : Nat} (hx : Fin3 x s M) (hr : rep M) (h1 : -((2 ^ 63 * 2 ^ 1074 : Nat) : Int) ≤ sv s M) (h2 : sv s M < ((2 ^ 63 * 2 ^ 1074 : Nat) : Int)) :
    ∃ v, floatToIntVal .f64 (floorW x) .i64 = some v := by
  have hdm := div_mod M (2 ^ 1074)
  have hsm := whole_small hr
  have hrt := rep_trunc hr
  have hQ : ∃ Q, rep (Q * 2 ^ 1074) ∧ floorW x = enc s (Q * 2 ^ 1074) ∧ -9223372036854775808 ≤ sv s Q ∧ sv s Q ≤ 9223372036854775807 := by
    rw [floorW_fin hx]
    refine ⟨_, ?_, rfl, ?_⟩
    · by_cases hm : (s && M % 2 ^ 1074 != 0) = true
      · rw [hm]
        have := hsm (by rw [Bool.and_eq_true] at hm; exact bne_iff_ne.1 hm.2)
        refine rep_int ?_
        generalize M / 2 ^ 1074 = q at *
        simp; omega
      · rw [Bool.not_eq_true] at hm
        rw [hm]
        exact hrt
    · have hK := K_pos
      generalize 2 ^ 1074 = K at *
      generalize hq : M / K = q at *
      generalize hm : M % K = m at *
      cases s
      · have e2 : (q + (false && m != 0).toNat) = q := by simp
        rw [e2]
        simp only [sv, Bool.false_eq_true, if_false] at h2 ⊢
        have : q * K < 2 ^ 63 * K := by omega
        have := Nat.lt_of_mul_lt_mul_right this
        omega
      · by_cases hm0 : m = 0
        · have e2 : (q + (true && m != 0).toNat) = q := by simp [hm0]
          rw [e2]
          simp only [sv, if_true] at h1 ⊢
          have : q * K ≤ 2 ^ 63 * K := by omega
          have := Nat.le_of_mul_le_mul_right this hK
          omega
        · have := hsm hm0
          have e2 : (q + (true && m != 0).toNat) = q + 1 := by simp [hm0]
          rw [e2]
          simp only [sv, if_true]
          omega
  obtain ⟨Q, hrQ, hQ, l1, l2⟩ := hQ
  rw [hQ]
  have e : Q * 2 ^ 1074 / 2 ^ 1074 = Q := Nat.mul_div_cancel _ K_pos
  have := toInt_gen (read_enc s hrQ) (by rw [e]; exact l1) (by rw [e]; exact l2)
  exact ⟨_, this⟩

end Go.Proofs.YtiidepafifodjabGreat.Fl
