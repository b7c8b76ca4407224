import Derived.Test.YtiidepafifodjabGreatFloorW
import Derived.Test.YtiidepafifodjabGreatRange
import Derived.Test.YtiidepafifodjabGreatSmall
import Derived.Test.YtiidepafifodjabGreatCases
import Derived.Test.YtiidepafifodjabGreatSet
import Derived.Test.YtiidepafifodjabGreatSpecOk
import Derived.Deep.RegionWith
/-! impl.floatKey, impl.keyOf, impl.Key, spec.Key. -/
namespace Go.Proofs.YtiidepafifodjabGreat
open Go.RowKit
attribute [local go_sem] run_store_float
attribute [local go_sem] ta_nil_absent ta_absent_absent ta_flag_absent ta_whole_absent ta_float_absent ta_word_absent ta_builtin_absent ta_made_absent ta_nil_flag ta_absent_flag ta_flag_flag ta_whole_flag ta_float_flag ta_word_flag ta_builtin_flag ta_made_flag ta_nil_whole ta_absent_whole ta_flag_whole ta_whole_whole ta_float_whole ta_word_whole ta_builtin_whole ta_made_whole ta_nil_float ta_absent_float ta_flag_float ta_whole_float ta_float_float ta_word_float ta_builtin_float ta_made_float ta_nil_word ta_absent_word ta_flag_word ta_whole_word ta_float_word ta_word_word ta_builtin_word ta_made_word

/-- a float that is a whole number between the bounds -/
def whB (f : Nat) : Bool := (FloatKind.f64.format.order f ntwo63 == some .gt || FloatKind.f64.format.order f ntwo63 == some .eq) && FloatKind.f64.format.order f two63 == some .lt && FloatKind.f64.format.order f (Fl.floorW f) == some .eq

def fkG (f : Nat) : Value :=
  if FloatKind.f64.format.order f f ≠ some .eq then gV 5 0 0 0 ⟨#[]⟩ 0
  else if whB f then gV 0 2 ((floatToIntVal .f64 f .i64).getD 0) 0 ⟨#[]⟩ 0 else gV 0 3 0 f ⟨#[]⟩ 0

set_option maxRecDepth 100000 in
set_option maxHeartbeats 2000000 in
theorem fk_nan (f : Nat) (h : FloatKind.f64.format.order f f = none) (w : World) : Calls Tryz.prog 114 #[.float .f64 f] w fun e w' => e = .returned (fkG f) ∧ Below w.heap.size w w' := by
  rw [show fkG f = gV 5 0 0 0 ⟨#[]⟩ 0 by simp [fkG, h]]
  go_enter Tryz.func114, Tryz.ntmps114
  go_wp2_with (first | (go_at_call 198; refine (isNaN_calls _ _).mono ?_; rintro e w2 ⟨rfl, rfl⟩) | (go_at_call 57; refine (failed_calls _ _).mono ?_; rintro e w1 ⟨rfl, hb1⟩; obtain ⟨hc1, hf1⟩ := bcell hb1))
  exact bodyPost_ret (v := gV 5 0 0 0 ⟨#[]⟩ 0) (by simp [results, Tryz.results114, go_sem, hc1]) rfl ⟨rfl, set6 (below_call (below_alloc _ _) hb1) (Nat.le_refl _) _ _ _ _ _ _⟩

set_option maxRecDepth 100000 in
set_option maxHeartbeats 2000000 in
theorem fk_calls (f : Nat) (hf : f < 2 ^ 64) (w : World) : Calls Tryz.prog 114 #[.float .f64 f] w fun e w' => e = .returned (fkG f) ∧ Below w.heap.size w w' := by
  rcases (order_self hf).symm with h | h
  · exact fk_nan f h w
  obtain ⟨d2, a2⟩ := ord_some hf h Fl.fin_ntwo63
  obtain ⟨d1, a1⟩ := ord_some hf h Fl.fin_two63
  have a2' : FloatKind.f64.format.order f ntwo63 = some d2 := a2
  have a1' : FloatKind.f64.format.order f two63 = some d1 := a1
  have HF : Hid (f < 2 ^ 64) := hf
  cases hw : whB f
  · rw [show fkG f = gV 0 3 0 f ⟨#[]⟩ 0 by simp [fkG, h, hw]]
    have hw' := hw
    unfold whB at hw'
    rw [a1', a2'] at hw'
    clear hw hf a1' a2'
    cases hF : (FloatKind.f64.format.order f (Fl.floorW f) == some .eq)
    · cases d2 <;> cases d1
      all_goals
        clear hw'
        go_enter Tryz.func114, Tryz.ntmps114
        go_wp2_with (first | (go_at_call 198; refine (isNaN_calls _ _).mono ?_; rintro e w2 ⟨rfl, rfl⟩) | (go_at_call 197; refine (mathFloor_calls _ HF.out h _).mono ?_; rintro e w2 ⟨rfl, rfl⟩) | (go_at_call 61; refine (gives_float _ _).mono ?_; rintro e w1 ⟨rfl, hb1⟩; obtain ⟨hc1, hf1⟩ := bcell hb1))
        exact bodyPost_ret (v := gV 0 3 0 f ⟨#[]⟩ 0) (by simp [results, Tryz.results114, go_sem, hc1]) rfl ⟨rfl, set6 (below_call (below_alloc _ _) hb1) (Nat.le_refl _) _ _ _ _ _ _⟩

    · rw [hF] at hw'
      cases d2 <;> cases d1 <;> first | (exact absurd hw' (by decide)) | skip
      all_goals
        clear hw'
        go_enter Tryz.func114, Tryz.ntmps114
        go_wp2_with (first | (go_at_call 198; refine (isNaN_calls _ _).mono ?_; rintro e w2 ⟨rfl, rfl⟩) | (go_at_call 197; refine (mathFloor_calls _ HF.out h _).mono ?_; rintro e w2 ⟨rfl, rfl⟩) | (go_at_call 61; refine (gives_float _ _).mono ?_; rintro e w1 ⟨rfl, hb1⟩; obtain ⟨hc1, hf1⟩ := bcell hb1))
        exact bodyPost_ret (v := gV 0 3 0 f ⟨#[]⟩ 0) (by simp [results, Tryz.results114, go_sem, hc1]) rfl ⟨rfl, set6 (below_call (below_alloc _ _) hb1) (Nat.le_refl _) _ _ _ _ _ _⟩

  · have hw' := hw
    unfold whB at hw'
    simp only [Bool.and_eq_true, Bool.or_eq_true, beq_iff_eq] at hw'
    obtain ⟨⟨b2, b1⟩, bF⟩ := hw'
    obtain ⟨v, hv⟩ := cut_int hf b2 b1
    rw [show fkG f = gV 0 2 v 0 ⟨#[]⟩ 0 by simp [fkG, h, hw, hv]]
    have hcv := fun (w : World) => run_convert_float_int (P := Tryz.prog) w 42 140 .f64 .i64 f v (by rw [Tryz.underlying42]; rfl) Tryz.underlying140 hv
    clear hw hf hv a1 a2 a1' a2'
    rcases b2 with b2 | b2
    · go_enter Tryz.func114, Tryz.ntmps114
      go_wp2_with (first | (go_at_call 198; refine (isNaN_calls _ _).mono ?_; rintro e w2 ⟨rfl, rfl⟩) | (go_at_call 197; refine (mathFloor_calls _ HF.out h _).mono ?_; rintro e w2 ⟨rfl, rfl⟩) | (go_at_call 61; refine (gives_whole _ _).mono ?_; rintro e w1 ⟨rfl, hb1⟩; obtain ⟨hc1, hf1⟩ := bcell hb1))
      exact bodyPost_ret (v := gV 0 2 v 0 ⟨#[]⟩ 0) (by simp [results, Tryz.results114, go_sem, hc1]) rfl ⟨rfl, set6 (below_call (below_alloc _ _) hb1) (Nat.le_refl _) _ _ _ _ _ _⟩
    · go_enter Tryz.func114, Tryz.ntmps114
      go_wp2_with (first | (go_at_call 198; refine (isNaN_calls _ _).mono ?_; rintro e w2 ⟨rfl, rfl⟩) | (go_at_call 197; refine (mathFloor_calls _ HF.out h _).mono ?_; rintro e w2 ⟨rfl, rfl⟩) | (go_at_call 61; refine (gives_whole _ _).mono ?_; rintro e w1 ⟨rfl, hb1⟩; obtain ⟨hc1, hf1⟩ := bcell hb1))
      exact bodyPost_ret (v := gV 0 2 v 0 ⟨#[]⟩ 0) (by simp [results, Tryz.results114, go_sem, hc1]) rfl ⟨rfl, set6 (below_call (below_alloc _ _) hb1) (Nat.le_refl _) _ _ _ _ _ _⟩

end Go.Proofs.YtiidepafifodjabGreat
