import Derived.Test.YtcpjnddkibbddaaGreatImD
import Derived.Laws.FloatArith
import Derived.Test.YtcpjnddkibbddaaGreatPlain
import Derived.Laws.Externs
/-! The floor of a float: what the program's library gives, and what the model's own steps give. -/
namespace Go.Proofs.YtcpjnddkibbddaaGreat.Fl
open Ieee

/-- the word of the floor -/
def floorW (x : Nat) : Nat := double.write ((double.read x).integral .down)

theorem pow_le {a b : Nat} (h : a ≤ b) : 2 ^ a ≤ 2 ^ b := Nat.pow_le_pow_right (by omega) h
theorem pow_join {a b c : Nat} (h : a + b = c) : 2 ^ a * 2 ^ b = 2 ^ c := (pow_split h).symm
theorem pow_turn {a b c d : Nat} (h : a + b = c + d) : 2 ^ a * 2 ^ b = 2 ^ c * 2 ^ d := by rw [← Nat.pow_add, ← Nat.pow_add, h]

theorem floorW_fin {x : Nat} {s : Bool} {M : Nat} (hx : Fin3 x s M) : floorW x = enc s ((M / 2 ^ 1074 + (s && M % 2 ^ 1074 != 0).toNat) * 2 ^ 1074) := integral_down hx

/-- where nothing is left over the floor is the float itself -/
theorem floorW_whole {x : Nat} {s : Bool} {M : Nat} (hx : Fin3 x s M) (he : x = enc s M) (h : M % 2 ^ 1074 = 0) : floorW x = x := by
  rw [floorW_fin hx, h]
  have e : (s && (0 : Nat) != 0).toNat = 0 := by simp
  rw [e, Nat.add_zero, Nat.div_mul_cancel (Nat.dvd_of_mod_eq_zero h)]
  exact he.symm

theorem floorW_inf {x : Nat} {s : Bool} (h : double.read x = .infinity s) (he : x = double.word s double.infRung) : floorW x = x := by
  unfold floorW
  rw [h]
  exact he.symm

/-- a great float is whole -/
theorem rep_big {M : Nat} (h : rep M) (hb : 2 ^ 1127 ≤ M) : M % 2 ^ 1074 = 0 := by
  obtain ⟨q, a, hq, ha, rfl⟩ := h
  have : 1074 ≤ a := by
    refine Nat.le_of_not_lt fun hlt => ?_
    have h1 : q * 2 ^ a < 2 ^ 53 * 2 ^ a := Nat.mul_lt_mul_of_pos_right hq (Nat.two_pow_pos a)
    rw [← Nat.pow_add] at h1
    have h0 : 53 + a ≤ 1127 := by clear hb h1; omega
    have h2 := pow_le h0
    generalize 2 ^ 1127 = E at hb h2
    exact Nat.lt_irrefl _ (Nat.lt_of_lt_of_le (Nat.lt_of_lt_of_le h1 h2) hb)
  rw [pow_split (show a - 1074 + 1074 = a by omega), ← Nat.mul_assoc, Nat.mul_mod_left]

/-- the words of 0, 1, two to the 63 and its opposite -/
theorem fin_zero : Fin3 0 false 0 := ⟨0, -1074, by decide +kernel, by omega, by omega⟩
theorem fin_one : Fin3 4607182418800017408 false (2 ^ 1074) := ⟨2 ^ 52, -52, by decide +kernel, by omega, (pow_join (a := 52) (b := ((-52 : Int) + 1074).toNat) (c := 1074) (by omega))⟩
theorem fin_two63 : Fin3 4890909195324358656 false (2 ^ 63 * 2 ^ 1074) := ⟨2 ^ 52, 11, by decide +kernel, by omega, (pow_turn (a := 52) (b := ((11 : Int) + 1074).toNat) (c := 63) (d := 1074) (by omega))⟩
theorem fin_ntwo63 : Fin3 14114281232179134464 true (2 ^ 63 * 2 ^ 1074) := ⟨2 ^ 52, 11, by decide +kernel, by omega, (pow_turn (a := 52) (b := ((11 : Int) + 1074).toNat) (c := 63) (d := 1074) (by omega))⟩

/-- less than two to the 63 in magnitude: cut to a whole number it fits -/
theorem toInt_val {x : Nat} {s : Bool} {M : Nat} (hx : Fin3 x s M) (h : M < 2 ^ 63 * 2 ^ 1074) : floatToIntVal .f64 x .i64 = some (sv s (M / 2 ^ 1074)) := by
  have hq : M / 2 ^ 1074 < 2 ^ 63 := (Nat.div_lt_iff_lt_mul (Nat.two_pow_pos 1074)).2 h
  unfold floatToIntVal
  have e : (FloatKind.f64.decode x).toInt .zero = some (sv s (M / 2 ^ 1074)) := toInt_zero hx
  rw [e]
  generalize M / 2 ^ 1074 = q at *
  have hr : IntKind.i64.min ≤ sv s q ∧ sv s q ≤ IntKind.i64.max := by
    have h1 : IntKind.i64.min = -9223372036854775808 := by decide
    have h2 : IntKind.i64.max = 9223372036854775807 := by decide
    rw [h1, h2]
    unfold sv
    cases s <;> simp only [if_true, if_false, Bool.false_eq_true] <;> omega
  simp only [hr, and_self, if_true]

/-- a small enough whole number made a float -/
theorem ofInt (n : Int) : floatOfInt .f64 n = enc (decide (n < 0)) (n.natAbs * 2 ^ 1074) := nearest_int n

theorem toInt_gen {x : Nat} {s : Bool} {M : Nat} (hx : Fin3 x s M) (h1 : -9223372036854775808 ≤ sv s (M / 2 ^ 1074)) (h2 : sv s (M / 2 ^ 1074) ≤ 9223372036854775807) : floatToIntVal .f64 x .i64 = some (sv s (M / 2 ^ 1074)) := by
  unfold floatToIntVal
  have e : (FloatKind.f64.decode x).toInt .zero = some (sv s (M / 2 ^ 1074)) := toInt_zero hx
  rw [e]
  generalize sv s (M / 2 ^ 1074) = q at *
  have hr : IntKind.i64.min ≤ q ∧ q ≤ IntKind.i64.max := by
    have g1 : IntKind.i64.min = -9223372036854775808 := by decide
    have g2 : IntKind.i64.max = 9223372036854775807 := by decide
    rw [g1, g2]
    exact ⟨h1, h2⟩
  simp only [hr, and_self, if_true]

theorem K_pos : 0 < 2 ^ 1074 := Nat.two_pow_pos 1074

theorem sv_natAbs (s : Bool) (q : Nat) : (sv s q).natAbs = q := by unfold sv; cases s <;> simp

theorem div_mod (M k : Nat) : M / k * k + M % k = M := Nat.div_add_mod' M k

/-- the model's own floor of a float between the two bounds: cut to a whole number, and one less where that is too much -/
theorem l1floor_mid {x : Nat} {s : Bool} {M : Nat} (hx : Fin3 x s M) (hr : rep M) (h0 : M ≠ 0) (hb : M < 2 ^ 63 * 2 ^ 1074) :
    ∃ n, floatToIntVal .f64 x .i64 = some n ∧ ((double.order (floatOfInt .f64 n) x ≠ some .gt ∧ floatOfInt .f64 n = floorW x) ∨ (double.order (floatOfInt .f64 n) x = some .gt ∧ floatBits .sub .f64 (floatOfInt .f64 n) 4607182418800017408 = some (floorW x))) := by
  refine ⟨_, toInt_val hx hb, ?_⟩
  rw [ofInt, sv_natAbs, floorW_fin hx]
  have hrt := rep_trunc hr
  have hdm := div_mod M (2 ^ 1074)
  have hsm := whole_small hr
  have hK := K_pos
  have hone : Fin3 4607182418800017408 false (2 ^ 1074) := fin_one
  have ht := fun b => read_enc b hrt
  generalize 2 ^ 1074 = K at *
  generalize hq : M / K = q at *
  generalize hm : M % K = m at *
  cases s
  · left
    have e1 : decide (sv false q < 0) = false := by simp [sv]
    rw [e1]
    have e2 : (q + (false && m != 0).toNat) = q := by simp
    rw [e2]
    refine ⟨?_, rfl⟩
    rw [order_fin (ht false) hx]
    intro h
    have := Int.compare_eq_gt.1 (Option.some.inj h)
    simp only [sv, Bool.false_eq_true, if_false] at this
    omega
  · by_cases hm0 : m = 0
    · left
      have hq0 : q ≠ 0 := by intro h; rw [h, hm0] at hdm; simp at hdm; omega
      have e1 : decide (sv true q < 0) = true := by simp [sv]; omega
      rw [e1]
      have e2 : (q + (true && m != 0).toNat) = q := by simp [hm0]
      rw [e2]
      refine ⟨?_, rfl⟩
      rw [order_fin (ht true) hx]
      intro h
      have := Int.compare_eq_gt.1 (Option.some.inj h)
      simp only [sv, if_true] at this
      omega
    · right
      have e2 : (q + (true && m != 0).toNat) = q + 1 := by simp [hm0]
      rw [e2]
      have hv : ∀ b, b = decide (sv true q < 0) → sv b (q * K) = -((q * K : Nat) : Int) := by
        intro b hb
        subst hb
        by_cases hq0 : q = 0
        · subst hq0; simp [sv]
        · have : decide (sv true q < 0) = true := by simp [sv]; omega
          rw [this]; simp [sv]
      refine ⟨?_, ?_⟩
      · rw [order_fin (ht _) hx, hv _ rfl]
        congr 1
        refine Int.compare_eq_gt.2 ?_
        simp only [sv, if_true]
        omega
      · show double.sub _ _ = _
        have hd : sv (decide (sv true q < 0)) (q * K) - sv false K = -(((q + 1) * K : Nat) : Int) := by
          rw [hv _ rfl, Nat.add_mul]; simp [sv]; omega
        have hp : 0 < (q + 1) * K := Nat.mul_pos (by omega) hK
        rw [sub_fin (ht _) hone (by rw [hd]; omega), hd]
        generalize (q + 1) * K = Z at hp ⊢
        congr 2
        · simp; omega
        · simp

/-- the floor of a float between the bounds, as a whole number -/
theorem floor_toInt {x : Nat} {s : Bool} {M : Nat} (hx : Fin3 x s M) (hr : rep M) (h1 : -((2 ^ 63 * 2 ^ 1074 : Nat) : Int) ≤ sv s M) (h2 : sv s M < ((2 ^ 63 * 2 ^ 1074 : Nat) : Int)) :
    ∃ v, floatToIntVal .f64 (floorW x) .i64 = some v := by
  have hdm := div_mod M (2 ^ 1074)
  have hsm := whole_small hr
  have hrt := rep_trunc hr
  have hQ : ∃ Q, rep (Q * 2 ^ 1074) ∧ floorW x = enc s (Q * 2 ^ 1074) ∧ -9223372036854775808 ≤ sv s Q ∧ sv s Q ≤ 9223372036854775807 := by
    rw [floorW_fin hx]
    refine ⟨_, ?_, rfl, ?_⟩
    · by_cases hm : (s && M % 2 ^ 1074 != 0) = true
      · rw [hm]
        have := hsm (by rw [Bool.and_eq_true] at hm; exact bne_iff_ne.1 hm.2)
        refine rep_int ?_
        generalize M / 2 ^ 1074 = q at *
        simp; omega
      · rw [Bool.not_eq_true] at hm
        rw [hm]
        exact hrt
    · have hK := K_pos
      generalize 2 ^ 1074 = K at *
      generalize hq : M / K = q at *
      generalize hm : M % K = m at *
      cases s
      · have e2 : (q + (false && m != 0).toNat) = q := by simp
        rw [e2]
        simp only [sv, Bool.false_eq_true, if_false] at h2 ⊢
        have : q * K < 2 ^ 63 * K := by omega
        have := Nat.lt_of_mul_lt_mul_right this
        omega
      · by_cases hm0 : m = 0
        · have e2 : (q + (true && m != 0).toNat) = q := by simp [hm0]
          rw [e2]
          simp only [sv, if_true] at h1 ⊢
          have : q * K ≤ 2 ^ 63 * K := by omega
          have := Nat.le_of_mul_le_mul_right this hK
          omega
        · have := hsm hm0
          have e2 : (q + (true && m != 0).toNat) = q + 1 := by simp [hm0]
          rw [e2]
          simp only [sv, if_true]
          omega
  obtain ⟨Q, hrQ, hQ, l1, l2⟩ := hQ
  rw [hQ]
  have e : Q * 2 ^ 1074 / 2 ^ 1074 = Q := Nat.mul_div_cancel _ K_pos
  have := toInt_gen (read_enc s hrQ) (by rw [e]; exact l1) (by rw [e]; exact l2)
  exact ⟨_, this⟩

end Go.Proofs.YtcpjnddkibbddaaGreat.Fl

/-! Type assertions on a thing: closed facts of the program's tables. -/
namespace Go.Proofs.YtcpjnddkibbddaaGreat
open Go.RowKit
end Go.Proofs.YtcpjnddkibbddaaGreat

/-! impl.failed and impl.gives. -/
namespace Go.Proofs.YtcpjnddkibbddaaGreat
open Go.RowKit
attribute [local go_sem] run_store_float

abbrev gV (c k n : Int) (f : Nat) (s : ByteArray) (r : Int) : Value := .agg #[.int .i64 c, .int .i64 k, .int .i64 n, .float .f64 f, .string s, .int .i64 r]

end Go.Proofs.YtcpjnddkibbddaaGreat

/-! laws.sameFloat, laws.eqValue, laws.eqValued; spec.l1fail and its kin. -/
namespace Go.Proofs.YtcpjnddkibbddaaGreat
open Go.RowKit
attribute [local go_sem] run_store_float

theorem lt64 {f : Nat} (h : (Lit.float .f64 f).wf = true) : f < 2 ^ 64 := by simpa [Lit.wf] using h

theorem order_self {f : Nat} (h : f < 2 ^ 64) : FloatKind.f64.format.order f f = some Ordering.eq ∨ FloatKind.f64.format.order f f = none := by
  show Ieee.double.order f f = _ ∨ Ieee.double.order f f = _
  rcases Fl.sort3 h with ⟨s, M, hf, _, _⟩ | ⟨s, hr, _⟩ | ⟨s, t, hr⟩
  · left; rw [Fl.order_fin hf hf, Int.compare_eq_eq.2 rfl]
  · left; unfold Ieee.Format.order; rw [hr]; cases s <;> rfl
  · right; unfold Ieee.Format.order; rw [hr]; rfl

/-- one over a zero is an infinity -/
theorem one_over {f : Nat} (h : f < 2 ^ 64) (hz : fz f = true) : ∃ q, floatBits .quo .f64 4607182418800017408 f = some q := by
  have hz0 : FloatKind.f64.format.order f 0 = some .eq := by simpa [fz] using hz
  have hz' : Ieee.double.order f 0 = some .eq := hz0
  show ∃ q, Ieee.double.div 4607182418800017408 f = some q
  have h1 : Ieee.double.read 4607182418800017408 = .number false 4503599627370496 (-52) := by decide +kernel
  have h0 : Fl.Fin3 0 false 0 := ⟨0, -1074, by decide +kernel, by omega, by omega⟩
  rcases Fl.sort3 h with ⟨s, M, hf, _, _⟩ | ⟨s, hr, _⟩ | ⟨s, t, hr⟩
  · rw [Fl.order_fin hf h0] at hz'
    have hM : Fl.sv s M = Fl.sv false 0 := Int.compare_eq_eq.1 (Option.some.inj hz')
    have hM0 : M = 0 := by unfold Fl.sv at hM; cases s <;> simp at hM <;> omega
    obtain ⟨m, i, g1, _, g3⟩ := hf
    have hm : m = 0 := by
      rw [hM0] at g3
      rcases Nat.mul_eq_zero.1 g3 with h | h
      · exact h
      · have := Nat.two_pow_pos (i + 1074).toNat; omega
    unfold Ieee.Format.div
    rw [h1, g1, hm]
    exact ⟨_, rfl⟩
  · unfold Ieee.Format.order at hz'
    rw [hr] at hz'
    exfalso
    revert hz'
    cases s <;> decide
  · unfold Ieee.Format.order at hz'
    rw [hr] at hz'
    exact absurd hz' (by simp [Ieee.Datum.order])

set_option maxRecDepth 100000 in
set_option maxHeartbeats 1000000 in
theorem sameFloat_same (f : Nat) (h : f < 2 ^ 64) (w : World) :
    Calls Tryz.prog 157 #[.float .f64 f, .float .f64 f] w fun e w' => e = .returned (.bool true) ∧ w' = w := by
  rcases order_self h with ho | ho
  · cases hz : fz f
    · have hz' : (FloatKind.f64.format.order f 0 == some Ordering.eq) = false := hz
      clear hz
      go_enter Tryz.func157, Tryz.ntmps157; go_wp2
      go_ret; exact ⟨rfl, rfl⟩
    · obtain ⟨q, hq⟩ := one_over h hz
      have hz' : FloatKind.f64.format.order f 0 = some Ordering.eq := by simpa [fz] using hz
      have hr := fun (t : TypeId) (w : World) => run_float_arith (P := Tryz.prog) w .quo t .f64 4607182418800017408 f q hq
      clear hz hq
      go_enter Tryz.func157, Tryz.ntmps157; go_wp2
      go_ret; exact ⟨rfl, rfl⟩
  · go_enter Tryz.func157, Tryz.ntmps157; go_wp2
    go_ret; exact ⟨rfl, rfl⟩

set_option maxRecDepth 100000 in
set_option maxHeartbeats 1000000 in
theorem sameFloat_nan (f g : Nat) (h : FloatKind.f64.format.order f f = none) (h' : FloatKind.f64.format.order g g = none) (w : World) :
    Calls Tryz.prog 157 #[.float .f64 f, .float .f64 g] w fun e w' => e = .returned (.bool true) ∧ w' = w := by
  go_enter Tryz.func157, Tryz.ntmps157; go_wp2
  go_ret; exact ⟨rfl, rfl⟩

/-- two floats that sameFloat takes for one -/
def oneF (f g : Nat) : Prop := (f = g ∧ f < 2 ^ 64) ∨ (FloatKind.f64.format.order f f = none ∧ FloatKind.f64.format.order g g = none)

theorem sameFloat_calls (f g : Nat) (h : oneF f g) (w : World) :
    Calls Tryz.prog 157 #[.float .f64 f, .float .f64 g] w fun e w' => e = .returned (.bool true) ∧ w' = w := by
  rcases h with ⟨rfl, h⟩ | ⟨h, h'⟩
  · exact sameFloat_same f h w
  · exact sameFloat_nan f g h h' w

end Go.Proofs.YtcpjnddkibbddaaGreat

/-! spec.l1nan, spec.l1floor, math.IsNaN, math.Floor. -/
namespace Go.Proofs.YtcpjnddkibbddaaGreat
open Go.RowKit

abbrev two63 : Nat := 4890909195324358656
abbrev ntwo63 : Nat := 14114281232179134464
abbrev oneW : Nat := 4607182418800017408

theorem big_gen {a b c d M : Nat} (h : a + b = c) (h' : d ≤ c) (hM : ¬ M < 2 ^ a * 2 ^ b) : 2 ^ d ≤ M := by
  rw [← Fl.pow_split h] at hM
  exact Nat.le_trans (Fl.pow_le h') (Nat.le_of_not_lt hM)
theorem ti_form (f : Nat) : ∃ A : Bool → Nat → Sem Value, Extern.MathFloor.toIntegral "math.archFloor" .down #[.float .f64 f] = (match FloatKind.f64.decode f with | .nan s t => A s t | d => pure (.float .f64 (FloatKind.f64.encode (d.integral .down)))) := ⟨_, rfl⟩
theorem floorW_whole' (K : Nat) (hK : K = 2 ^ 1074) {x : Nat} {s : Bool} {M : Nat} (hx : Fl.Fin3 x s M) (he : x = Fl.enc s M) (h : M % K = 0) : Fl.floorW x = x := by
  rw [hK] at h
  exact Fl.floorW_whole hx he h
theorem floorW_zero {x : Nat} {s : Bool} (hx : Fl.Fin3 x s 0) (he : x = Fl.enc s 0) : Fl.floorW x = x := by
  obtain ⟨K, hK⟩ : ∃ K, K = 2 ^ 1074 := ⟨_, rfl⟩
  exact floorW_whole' K hK hx he (Nat.zero_mod K)
theorem cmp_lo (s : Bool) (M E : Nat) (h : M < E) : compare (Fl.sv s M) (Fl.sv false E) = .lt := by
  refine Int.compare_eq_lt.2 ?_
  cases s <;> simp [Fl.sv] <;> omega
theorem cmp_hi (s : Bool) (M E : Nat) (h : M < E) : compare (Fl.sv s M) (Fl.sv true E) = .gt := by
  refine Int.compare_eq_gt.2 ?_
  cases s <;> simp [Fl.sv] <;> omega
theorem cmp_ge (M E : Nat) (h : E ≤ M) : compare (Fl.sv false M) (Fl.sv false E) ≠ .lt := by
  intro h'
  have := Int.compare_eq_lt.1 h'
  simp [Fl.sv] at this; omega
theorem cmp_neg (M E : Nat) (h : M ≠ 0) : compare (Fl.sv true M) (Fl.sv false E) = .lt := by
  refine Int.compare_eq_lt.2 ?_
  simp [Fl.sv]; omega
theorem cmp_le (M E : Nat) (h : E ≤ M) : compare (Fl.sv true M) (Fl.sv true E) ≠ .gt := by
  intro h'
  have := Int.compare_eq_gt.1 h'
  simp [Fl.sv] at this; omega

/-- where a float that is no NaN stands to 0 and the two bounds, and what its floor is there -/
theorem ord_cases {f : Nat} (hf : f < 2 ^ 64) (hn : FloatKind.f64.format.order f f ≠ none) :
    (FloatKind.f64.format.order f 0 = some .eq ∧ Fl.floorW f = f) ∨
    (∃ c d, FloatKind.f64.format.order f 0 = some c ∧ c ≠ .eq ∧ FloatKind.f64.format.order f two63 = some d ∧ d ≠ .lt ∧ Fl.floorW f = f) ∨
    (∃ c d, FloatKind.f64.format.order f 0 = some c ∧ c ≠ .eq ∧ FloatKind.f64.format.order f two63 = some .lt ∧ FloatKind.f64.format.order f ntwo63 = some d ∧ d ≠ .gt ∧ Fl.floorW f = f) ∨
    (∃ c n, FloatKind.f64.format.order f 0 = some c ∧ c ≠ .eq ∧ FloatKind.f64.format.order f two63 = some .lt ∧ FloatKind.f64.format.order f ntwo63 = some .gt ∧
      floatToIntVal .f64 f .i64 = some n ∧ ((FloatKind.f64.format.order (floatOfInt .f64 n) f ≠ some .gt ∧ floatOfInt .f64 n = Fl.floorW f) ∨ (FloatKind.f64.format.order (floatOfInt .f64 n) f = some .gt ∧ floatBits .sub .f64 (floatOfInt .f64 n) oneW = some (Fl.floorW f)))) := by
  have hn' : Ieee.double.order f f ≠ none := hn
  show (Ieee.double.order f 0 = _ ∧ _) ∨ (∃ c d, Ieee.double.order f 0 = _ ∧ _ ∧ Ieee.double.order f two63 = _ ∧ _ ∧ _) ∨ (∃ c d, Ieee.double.order f 0 = _ ∧ _ ∧ Ieee.double.order f two63 = _ ∧ Ieee.double.order f ntwo63 = _ ∧ _ ∧ _) ∨ (∃ c n, Ieee.double.order f 0 = _ ∧ _ ∧ Ieee.double.order f two63 = _ ∧ Ieee.double.order f ntwo63 = _ ∧ _ ∧ ((Ieee.double.order _ f ≠ _ ∧ _) ∨ (Ieee.double.order _ f = _ ∧ _)))
  rcases Fl.sort3 hf with ⟨s, M, hx, hr, he⟩ | ⟨s, hr, he⟩ | ⟨s, t, hr⟩
  · rw [Fl.order_fin hx Fl.fin_zero, Fl.order_fin hx Fl.fin_two63, Fl.order_fin hx Fl.fin_ntwo63]
    by_cases h0 : M = 0
    · left
      subst h0
      refine ⟨?_, floorW_zero hx he⟩
      exact congrArg some (Int.compare_eq_eq.2 (by cases s <;> simp [Fl.sv]))
    · have hc : compare (Fl.sv s M) (Fl.sv false 0) ≠ .eq := by
        intro h
        have := Int.compare_eq_eq.1 h
        cases s <;> simp [Fl.sv] at this <;> exact h0 this
      right
      by_cases hb : M < 2 ^ 63 * 2 ^ 1074
      · right; right
        obtain ⟨n, g1, g2⟩ := Fl.l1floor_mid hx hr h0 hb
        exact ⟨_, n, rfl, hc, congrArg some (cmp_lo s _ _ hb), congrArg some (cmp_hi s _ _ hb), g1, g2⟩
      · have hw : Fl.floorW f = f := Fl.floorW_whole hx he (Fl.rep_big hr (big_gen (a := 63) (b := 1074) (c := 1137) (d := 1127) rfl (by decide) hb))
        have hb' := Nat.le_of_not_lt hb
        cases s
        · left
          exact ⟨_, _, rfl, hc, rfl, cmp_ge _ _ hb', hw⟩
        · right; left
          exact ⟨_, _, rfl, hc, congrArg some (cmp_neg _ _ h0), rfl, cmp_le _ _ hb', hw⟩
  · obtain ⟨m0, i0, z1, _, _⟩ := Fl.fin_zero
    obtain ⟨m1, i1, z2, _, _⟩ := Fl.fin_two63
    obtain ⟨m2, i2, z3, _, _⟩ := Fl.fin_ntwo63
    have hw := Fl.floorW_inf hr he
    unfold Ieee.Format.order
    rw [hr, z1, z2, z3]
    right
    cases s
    · left; exact ⟨.gt, .gt, rfl, by decide, rfl, by decide, hw⟩
    · right; left; exact ⟨.lt, .lt, rfl, by decide, rfl, rfl, by decide, hw⟩
  · exfalso
    refine hn' ?_
    unfold Ieee.Format.order
    rw [hr]; rfl

set_option maxRecDepth 100000 in
set_option maxHeartbeats 1000000 in
theorem isNaN_calls (f : Nat) (w : World) : Calls Tryz.prog 148 #[.float .f64 f] w fun e w' => e = .returned (.bool (FloatKind.f64.format.order f f != some .eq)) ∧ w' = w := by
  go_enter Tryz.func148, Tryz.ntmps148; go_wp2
  go_ret; exact ⟨rfl, rfl⟩

end Go.Proofs.YtcpjnddkibbddaaGreat
