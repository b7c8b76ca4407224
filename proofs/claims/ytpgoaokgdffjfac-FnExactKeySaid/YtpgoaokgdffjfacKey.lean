import Derived.Test.YtpgoaokgdffjfacFloorW
import Derived.Test.YtpgoaokgdffjfacSmall
import Derived.Test.YtpgoaokgdffjfacCases
import Derived.Test.YtpgoaokgdffjfacSet
import Derived.Test.YtpgoaokgdffjfacSpecOk
import Derived.Deep.RegionWith
/-! impl.floatKey, impl.keyOf, impl.Key, spec.Key. -/
namespace Go.Proofs.Ytpgoaokgdffjfac
open Go.RowKit
attribute [local go_sem] run_store_float
attribute [local go_sem] ta_nil_absent ta_absent_absent ta_flag_absent ta_whole_absent ta_float_absent ta_word_absent ta_builtin_absent ta_made_absent ta_nil_flag ta_absent_flag ta_flag_flag ta_whole_flag ta_float_flag ta_word_flag ta_builtin_flag ta_made_flag ta_nil_whole ta_absent_whole ta_flag_whole ta_whole_whole ta_float_whole ta_word_whole ta_builtin_whole ta_made_whole ta_nil_float ta_absent_float ta_flag_float ta_whole_float ta_float_float ta_word_float ta_builtin_float ta_made_float ta_nil_word ta_absent_word ta_flag_word ta_whole_word ta_float_word ta_word_word ta_builtin_word ta_made_word

/-- a float that is a whole number between the bounds -/
def whB (f : Nat) : Bool := (FloatKind.f64.format.order f ntwo63 == some .gt || FloatKind.f64.format.order f ntwo63 == some .eq) && FloatKind.f64.format.order f two63 == some .lt && FloatKind.f64.format.order f (Fl.floorW f) == some .eq

def fkG (f : Nat) : Value :=
  if FloatKind.f64.format.order f f ≠ some .eq then gV 5 0 0 0 ⟨#[]⟩ 0
  else if whB f then gV 0 2 ((floatToIntVal .f64 f .i64).getD 0) 0 ⟨#[]⟩ 0 else gV 0 3 0 f ⟨#[]⟩ 0

theorem ord_some {f g : Nat} (hf : f < 2 ^ 64) (h : FloatKind.f64.format.order f f = some .eq) {s : Bool} {M : Nat} (g1 : Fl.Fin3 g s M) : ∃ d, FloatKind.f64.format.order f g = some d := by
  have h' : Ieee.double.order f f = some .eq := h
  show ∃ d, Ieee.double.order f g = some d
  rcases Fl.sort3 hf with ⟨s, M, hx, _, _⟩ | ⟨s, g2, _⟩ | ⟨s, t, g2⟩
  · exact ⟨_, Fl.order_fin hx g1⟩
  · obtain ⟨m, i, e, _, _⟩ := g1
    unfold Ieee.Format.order
    rw [g2, e]; exact ⟨_, rfl⟩
  · unfold Ieee.Format.order at h'
    rw [g2] at h'
    cases h'

theorem rng_lo (s : Bool) (M E : Nat) (h : compare (Fl.sv s M) (Fl.sv true E) ≠ .lt) : -(E : Int) ≤ Fl.sv s M := by
  refine Int.not_lt.1 fun h' => h (Int.compare_eq_lt.2 ?_)
  simpa [Fl.sv] using h'
theorem rng_hi (s : Bool) (M E : Nat) (h : compare (Fl.sv s M) (Fl.sv false E) = .lt) : Fl.sv s M < (E : Int) := by
  simpa [Fl.sv] using Int.compare_eq_lt.1 h

theorem cut_rng (s : Bool) (M K : Nat) (hK : 0 < K) (h1 : -((2 ^ 63 * K : Nat) : Int) ≤ Fl.sv s M) (h2 : Fl.sv s M < ((2 ^ 63 * K : Nat) : Int)) : -9223372036854775808 ≤ Fl.sv s (M / K) ∧ Fl.sv s (M / K) ≤ 9223372036854775807 := by
  have hd : M / K * K ≤ M := Nat.div_mul_le_self M K
  generalize M / K = q at *
  cases s
  · simp only [Fl.sv, Bool.false_eq_true, if_false] at *
    have : q * K < 2 ^ 63 * K := by omega
    have := Nat.lt_of_mul_lt_mul_right this
    omega
  · simp only [Fl.sv, if_true] at *
    have : q * K ≤ 2 ^ 63 * K := by omega
    have := Nat.le_of_mul_le_mul_right this hK
    omega

/-- between the bounds a float can be cut to an int -/
theorem cut_int {f : Nat} (hf : f < 2 ^ 64) (h1 : FloatKind.f64.format.order f ntwo63 = some .gt ∨ FloatKind.f64.format.order f ntwo63 = some .eq) (h2 : FloatKind.f64.format.order f two63 = some .lt) : ∃ v, floatToIntVal .f64 f .i64 = some v := by
  have h1' : Ieee.double.order f ntwo63 = some .gt ∨ Ieee.double.order f ntwo63 = some .eq := h1
  have h2' : Ieee.double.order f two63 = some .lt := h2
  rcases Fl.sort3 hf with ⟨s, M, hx, hr, _⟩ | ⟨s, g2, _⟩ | ⟨s, t, g2⟩
  · rw [Fl.order_fin hx Fl.fin_two63] at h2'
    rw [Fl.order_fin hx Fl.fin_ntwo63] at h1'
    have a := rng_hi _ _ _ (Option.some.inj h2')
    have b : -((2 ^ 63 * 2 ^ 1074 : Nat) : Int) ≤ Fl.sv s M := rng_lo _ _ _ (by
      rcases h1' with h | h <;> rw [Option.some.inj h] <;> decide)
    obtain ⟨c, d⟩ := cut_rng s M _ Fl.K_pos b a
    exact ⟨_, Fl.toInt_gen hx c d⟩
  · obtain ⟨m1, i1, z2, _, _⟩ := Fl.fin_two63
    obtain ⟨m2, i2, z3, _, _⟩ := Fl.fin_ntwo63
    exfalso
    unfold Ieee.Format.order at h1' h2'
    rw [g2, z2] at h2'
    rw [g2, z3] at h1'
    cases s
    · cases h2'
    · rcases h1' with h | h <;> cases h
  · exfalso
    unfold Ieee.Format.order at h2'
    rw [g2] at h2'
    cases h2'

set_option maxRecDepth 100000 in
set_option maxHeartbeats 2000000 in
theorem fk_nan (f : Nat) (h : FloatKind.f64.format.order f f = none) (w : World) : Calls Try.prog 67 #[.float .f64 f] w fun e w' => e = .returned (fkG f) ∧ Below w.heap.size w w' := by
  rw [show fkG f = gV 5 0 0 0 ⟨#[]⟩ 0 by simp [fkG, h]]
  go_enter Try.func67, Try.ntmps67
  go_wp2_with (first | (go_at_call 84; refine (isNaN_calls _ _).mono ?_; rintro e w2 ⟨rfl, rfl⟩) | (go_at_call 66; refine (failed_calls _ _).mono ?_; rintro e w1 ⟨rfl, hb1⟩; obtain ⟨hc1, hf1⟩ := bcell hb1))
  exact bodyPost_ret (v := gV 5 0 0 0 ⟨#[]⟩ 0) (by simp [results, Try.results67, go_sem, hc1]) rfl ⟨rfl, set6 (below_call (below_alloc _ _) hb1) (Nat.le_refl _) _ _ _ _ _ _⟩

set_option maxRecDepth 100000 in
set_option maxHeartbeats 2000000 in
theorem fk_calls (f : Nat) (hf : f < 2 ^ 64) (w : World) : Calls Try.prog 67 #[.float .f64 f] w fun e w' => e = .returned (fkG f) ∧ Below w.heap.size w w' := by
  rcases (order_self hf).symm with h | h
  · exact fk_nan f h w
  obtain ⟨d2, a2⟩ := ord_some hf h Fl.fin_ntwo63
  obtain ⟨d1, a1⟩ := ord_some hf h Fl.fin_two63
  have a2' : FloatKind.f64.format.order f ntwo63 = some d2 := a2
  have a1' : FloatKind.f64.format.order f two63 = some d1 := a1
  have HF : Hid (f < 2 ^ 64) := hf
  cases hw : whB f
  · rw [show fkG f = gV 0 3 0 f ⟨#[]⟩ 0 by simp [fkG, h, hw]]
    have hw' := hw
    unfold whB at hw'
    rw [a1', a2'] at hw'
    clear hw hf a1' a2'
    cases hF : (FloatKind.f64.format.order f (Fl.floorW f) == some .eq)
    · cases d2 <;> cases d1
      all_goals
        clear hw'
        go_enter Try.func67, Try.ntmps67
        go_wp2_with (first | (go_at_call 84; refine (isNaN_calls _ _).mono ?_; rintro e w2 ⟨rfl, rfl⟩) | (go_at_call 85; refine (mathFloor_calls _ HF.out h _).mono ?_; rintro e w2 ⟨rfl, rfl⟩) | (go_at_call 86; refine (gives_float _ _).mono ?_; rintro e w1 ⟨rfl, hb1⟩; obtain ⟨hc1, hf1⟩ := bcell hb1))
        exact bodyPost_ret (v := gV 0 3 0 f ⟨#[]⟩ 0) (by simp [results, Try.results67, go_sem, hc1]) rfl ⟨rfl, set6 (below_call (below_alloc _ _) hb1) (Nat.le_refl _) _ _ _ _ _ _⟩

    · rw [hF] at hw'
      cases d2 <;> cases d1 <;> first | (exact absurd hw' (by decide)) | skip
      all_goals
        clear hw'
        go_enter Try.func67, Try.ntmps67
        go_wp2_with (first | (go_at_call 84; refine (isNaN_calls _ _).mono ?_; rintro e w2 ⟨rfl, rfl⟩) | (go_at_call 85; refine (mathFloor_calls _ HF.out h _).mono ?_; rintro e w2 ⟨rfl, rfl⟩) | (go_at_call 86; refine (gives_float _ _).mono ?_; rintro e w1 ⟨rfl, hb1⟩; obtain ⟨hc1, hf1⟩ := bcell hb1))
        exact bodyPost_ret (v := gV 0 3 0 f ⟨#[]⟩ 0) (by simp [results, Try.results67, go_sem, hc1]) rfl ⟨rfl, set6 (below_call (below_alloc _ _) hb1) (Nat.le_refl _) _ _ _ _ _ _⟩

  · have hw' := hw
    unfold whB at hw'
    simp only [Bool.and_eq_true, Bool.or_eq_true, beq_iff_eq] at hw'
    obtain ⟨⟨b2, b1⟩, bF⟩ := hw'
    obtain ⟨v, hv⟩ := cut_int hf b2 b1
    rw [show fkG f = gV 0 2 v 0 ⟨#[]⟩ 0 by simp [fkG, h, hw, hv]]
    have hcv := fun (w : World) => run_convert_float_int (P := Try.prog) w 22 110 .f64 .i64 f v (by rw [Try.underlying22]; rfl) Try.underlying110 hv
    clear hw hf hv a1 a2 a1' a2'
    rcases b2 with b2 | b2
    · go_enter Try.func67, Try.ntmps67
      go_wp2_with (first | (go_at_call 84; refine (isNaN_calls _ _).mono ?_; rintro e w2 ⟨rfl, rfl⟩) | (go_at_call 85; refine (mathFloor_calls _ HF.out h _).mono ?_; rintro e w2 ⟨rfl, rfl⟩) | (go_at_call 86; refine (gives_whole _ _).mono ?_; rintro e w1 ⟨rfl, hb1⟩; obtain ⟨hc1, hf1⟩ := bcell hb1))
      exact bodyPost_ret (v := gV 0 2 v 0 ⟨#[]⟩ 0) (by simp [results, Try.results67, go_sem, hc1]) rfl ⟨rfl, set6 (below_call (below_alloc _ _) hb1) (Nat.le_refl _) _ _ _ _ _ _⟩
    · go_enter Try.func67, Try.ntmps67
      go_wp2_with (first | (go_at_call 84; refine (isNaN_calls _ _).mono ?_; rintro e w2 ⟨rfl, rfl⟩) | (go_at_call 85; refine (mathFloor_calls _ HF.out h _).mono ?_; rintro e w2 ⟨rfl, rfl⟩) | (go_at_call 86; refine (gives_whole _ _).mono ?_; rintro e w1 ⟨rfl, hb1⟩; obtain ⟨hc1, hf1⟩ := bcell hb1))
      exact bodyPost_ret (v := gV 0 2 v 0 ⟨#[]⟩ 0) (by simp [results, Try.results67, go_sem, hc1]) rfl ⟨rfl, set6 (below_call (below_alloc _ _) hb1) (Nat.le_refl _) _ _ _ _ _ _⟩

end Go.Proofs.Ytpgoaokgdffjfac
