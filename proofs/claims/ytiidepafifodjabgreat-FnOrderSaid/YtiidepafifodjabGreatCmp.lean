import Derived.Test.YtiidepafifodjabGreatRange
import Derived.Test.YtiidepafifodjabGreatAsserts
/-! Comparing numbers: cmp.Compare, spec.l1intflt, impl.orderMixed and their kin. -/
namespace Go.Proofs.YtiidepafifodjabGreat
open Go.RowKit

def cmpI (n m : Int) : Int := if n < m then -1 else if m < n then 1 else 0
def cmpF (f g : Nat) : Int := if FloatKind.f64.format.order f g = some .lt then -1 else if FloatKind.f64.format.order f g = some .gt then 1 else 0
def flI (f : Nat) : Int := (floatToIntVal .f64 (Fl.floorW f) .i64).getD 0
def cmpIF (n : Int) (f : Nat) : Int :=
  if FloatKind.f64.format.order f two63 ≠ some .lt then -1
  else if FloatKind.f64.format.order f ntwo63 = some .lt then 1
  else if n < flI f then -1 else if flI f < n then 1
  else if FloatKind.f64.format.order f (Fl.floorW f) = some .gt then -1 else 0

theorem cmpIF_rng (n : Int) (f : Nat) : cmpIF n f = -1 ∨ cmpIF n f = 0 ∨ cmpIF n f = 1 := by
  unfold cmpIF
  (repeat' split) <;> simp

set_option maxRecDepth 100000 in
set_option maxHeartbeats 2000000 in
theorem cmpInt64_calls (n m : Int) (w : World) : Calls Tryz.prog 229 #[.int .i64 n, .int .i64 m] w fun e w' => e = .returned (.int .i64 (cmpI n m)) ∧ w' = w := by
  unfold cmpI
  by_cases h1 : n < m
  · rw [if_pos h1]
    go_enter Tryz.func229, Tryz.ntmps229; go_wp2
    go_ret; exact ⟨rfl, rfl⟩
  · rw [if_neg h1]
    by_cases h2 : m < n
    · rw [if_pos h2]
      go_enter Tryz.func229, Tryz.ntmps229; go_wp2
      go_ret; exact ⟨rfl, rfl⟩
    · rw [if_neg h2]
      go_enter Tryz.func229, Tryz.ntmps229; go_wp2
      go_ret; exact ⟨rfl, rfl⟩

set_option maxRecDepth 100000 in
set_option maxHeartbeats 2000000 in
theorem cmpWhole_calls (n m : Int) (w : World) : Calls Tryz.prog 191 #[.int .i64 n, .int .i64 m] w fun e w' => e = .returned (.int .i64 (cmpI n m)) ∧ w' = w := by
  unfold cmpI
  by_cases h1 : n < m
  · rw [if_pos h1]
    go_enter Tryz.func191, Tryz.ntmps191; go_wp2
    go_ret; exact ⟨rfl, rfl⟩
  · rw [if_neg h1]
    by_cases h2 : m < n
    · rw [if_pos h2]
      go_enter Tryz.func191, Tryz.ntmps191; go_wp2
      go_ret; exact ⟨rfl, rfl⟩
    · rw [if_neg h2]
      go_enter Tryz.func191, Tryz.ntmps191; go_wp2
      go_ret; exact ⟨rfl, rfl⟩

set_option maxRecDepth 100000 in
set_option maxHeartbeats 2000000 in
theorem cmpFloat_calls (f g : Nat) (h1 : FloatKind.f64.format.order f f = some .eq) (h2 : FloatKind.f64.format.order g g = some .eq) (w : World) : Calls Tryz.prog 230 #[.float .f64 f, .float .f64 g] w fun e w' => e = .returned (.int .i64 (cmpF f g)) ∧ w' = w := by
  unfold cmpF
  by_cases h3 : FloatKind.f64.format.order f g = some .lt
  · rw [if_pos h3]
    go_enter Tryz.func230, Tryz.ntmps230; go_wp2
    go_ret; exact ⟨rfl, rfl⟩
  · rw [if_neg h3]
    have h3' : (FloatKind.f64.format.order f g == some .lt) = false := by simpa using h3
    by_cases h4 : FloatKind.f64.format.order f g = some .gt
    · rw [if_pos h4]
      go_enter Tryz.func230, Tryz.ntmps230; go_wp2
      go_ret; exact ⟨rfl, rfl⟩
    · rw [if_neg h4]
      have h4' : (FloatKind.f64.format.order f g == some .gt) = false := by simpa using h4
      go_enter Tryz.func230, Tryz.ntmps230; go_wp2
      go_ret; exact ⟨rfl, rfl⟩

set_option maxRecDepth 100000 in
set_option maxHeartbeats 2000000 in
theorem l1intflt_calls (n : Int) (f : Nat) (hf : f < 2 ^ 64) (hE : FloatKind.f64.format.order f f = some .eq) (w : World) : Calls Tryz.prog 56 #[.int .i64 n, .float .f64 f] w fun e w' => e = .returned (.int .i64 (cmpIF n f)) ∧ w' = w := by
  obtain ⟨d2, a2⟩ := ord_some hf hE Fl.fin_ntwo63
  obtain ⟨d1, a1⟩ := ord_some hf hE Fl.fin_two63
  have a2' : FloatKind.f64.format.order f ntwo63 = some d2 := a2
  have a1' : FloatKind.f64.format.order f two63 = some d1 := a1
  have HF : Hid (f < 2 ^ 64) := hf
  unfold cmpIF
  rw [a1', a2']
  by_cases c1 : d1 ≠ .lt
  · rw [if_pos (by simpa using c1)]
    clear a1' a2' hf a2
    cases d1 <;> first | exact absurd rfl c1 | skip
    all_goals
      go_enter Tryz.func56, Tryz.ntmps56
      go_wp2_with (first | fail | fail)
      go_ret; exact ⟨rfl, rfl⟩
  have c1 : d1 = .lt := Decidable.not_not.1 c1
  rw [if_neg (by simp [c1])]
  subst c1
  by_cases c2 : d2 = .lt
  · rw [if_pos (by rw [c2])]
    subst c2
    clear a1' a2' hf
    go_enter Tryz.func56, Tryz.ntmps56
    go_wp2_with (first | fail | fail)
    go_ret; exact ⟨rfl, rfl⟩
  rw [if_neg (by simpa using c2)]
  obtain ⟨v, hv⟩ := floor_cut hf (by rw [a2']; cases d2 <;> simp at c2 ⊢) a1'
  have hvv : flI f = v := by unfold flI; rw [hv]; rfl
  rw [hvv]
  clear hvv
  have hcv := fun (w : World) => run_convert_float_int (P := Tryz.prog) w 42 2 .f64 .i64 (Fl.floorW f) v (by rw [Tryz.underlying42]; rfl) Tryz.underlying2 hv
  clear hv a1' a2' hf
  cases d2 <;> first | exact absurd rfl c2 | skip
  all_goals
    clear c2
    by_cases g1 : n < v
    · rw [if_pos g1]
      go_enter Tryz.func56, Tryz.ntmps56
      go_wp2_with (go_at_call 108; refine (l1floor_calls _ HF.out hE _).mono ?_; rintro e w2 ⟨rfl, rfl⟩)
      go_ret; exact ⟨rfl, rfl⟩
    rw [if_neg g1]
    by_cases g2 : v < n
    · rw [if_pos g2]
      go_enter Tryz.func56, Tryz.ntmps56
      go_wp2_with (go_at_call 108; refine (l1floor_calls _ HF.out hE _).mono ?_; rintro e w2 ⟨rfl, rfl⟩)
      go_ret; exact ⟨rfl, rfl⟩
    rw [if_neg g2]
    by_cases g3 : FloatKind.f64.format.order f (Fl.floorW f) = some .gt
    · rw [if_pos g3]
      go_enter Tryz.func56, Tryz.ntmps56
      go_wp2_with (go_at_call 108; refine (l1floor_calls _ HF.out hE _).mono ?_; rintro e w2 ⟨rfl, rfl⟩)
      go_ret; exact ⟨rfl, rfl⟩
    · rw [if_neg g3]
      have g3' : (FloatKind.f64.format.order f (Fl.floorW f) == some .gt) = false := by simpa using g3
      go_enter Tryz.func56, Tryz.ntmps56
      go_wp2_with (go_at_call 108; refine (l1floor_calls _ HF.out hE _).mono ?_; rintro e w2 ⟨rfl, rfl⟩)
      go_ret; exact ⟨rfl, rfl⟩

set_option maxRecDepth 100000 in
set_option maxHeartbeats 2000000 in
theorem orderMixed_calls (n : Int) (f : Nat) (hf : f < 2 ^ 64) (hE : FloatKind.f64.format.order f f = some .eq) (w : World) : Calls Tryz.prog 192 #[.int .i64 n, .float .f64 f] w fun e w' => e = .returned (.int .i64 (cmpIF n f)) ∧ w' = w := by
  obtain ⟨d2, a2⟩ := ord_some hf hE Fl.fin_ntwo63
  obtain ⟨d1, a1⟩ := ord_some hf hE Fl.fin_two63
  have a2' : FloatKind.f64.format.order f ntwo63 = some d2 := a2
  have a1' : FloatKind.f64.format.order f two63 = some d1 := a1
  have HF : Hid (f < 2 ^ 64) := hf
  unfold cmpIF
  rw [a1', a2']
  by_cases c1 : d1 ≠ .lt
  · rw [if_pos (by simpa using c1)]
    clear a1' a2' hf a2
    cases d1 <;> first | exact absurd rfl c1 | skip
    all_goals
      go_enter Tryz.func192, Tryz.ntmps192
      go_wp2_with (first | (go_at_call 198; refine (isNaN_calls _ _).mono ?_; rintro e w2 ⟨rfl, rfl⟩) | fail)
      go_ret; exact ⟨rfl, rfl⟩
  have c1 : d1 = .lt := Decidable.not_not.1 c1
  rw [if_neg (by simp [c1])]
  subst c1
  by_cases c2 : d2 = .lt
  · rw [if_pos (by rw [c2])]
    subst c2
    clear a1' a2' hf
    go_enter Tryz.func192, Tryz.ntmps192
    go_wp2_with (first | (go_at_call 198; refine (isNaN_calls _ _).mono ?_; rintro e w2 ⟨rfl, rfl⟩) | fail)
    go_ret; exact ⟨rfl, rfl⟩
  rw [if_neg (by simpa using c2)]
  obtain ⟨v, hv⟩ := floor_cut hf (by rw [a2']; cases d2 <;> simp at c2 ⊢) a1'
  have hvv : flI f = v := by unfold flI; rw [hv]; rfl
  rw [hvv]
  clear hvv
  have hcv := fun (w : World) => run_convert_float_int (P := Tryz.prog) w 42 2 .f64 .i64 (Fl.floorW f) v (by rw [Tryz.underlying42]; rfl) Tryz.underlying2 hv
  clear hv a1' a2' hf
  cases d2 <;> first | exact absurd rfl c2 | skip
  all_goals
    clear c2
    by_cases g1 : n < v
    · rw [if_pos g1]
      have hc : cmpI n v = -1 := by unfold cmpI; rw [if_pos g1]
      have hC : Hid (∀ w, Calls Tryz.prog 229 #[.int .i64 n, .int .i64 v] w fun e w' => e = .returned (.int .i64 (-1)) ∧ w' = w) := by intro w; rw [← hc]; exact cmpInt64_calls n v w
      clear hc
      go_enter Tryz.func192, Tryz.ntmps192
      go_wp2_with (first | (go_at_call 198; refine (isNaN_calls _ _).mono ?_; rintro e w2 ⟨rfl, rfl⟩) | (go_at_call 197; refine (mathFloor_calls _ HF.out hE _).mono ?_; rintro e w2 ⟨rfl, rfl⟩) | (go_at_call 229; refine (hC.out _).mono ?_; rintro e w2 ⟨rfl, rfl⟩))
      go_ret; exact ⟨rfl, rfl⟩
    rw [if_neg g1]
    by_cases g2 : v < n
    · rw [if_pos g2]
      have hc : cmpI n v = 1 := by unfold cmpI; rw [if_neg g1, if_pos g2]
      have hC : Hid (∀ w, Calls Tryz.prog 229 #[.int .i64 n, .int .i64 v] w fun e w' => e = .returned (.int .i64 1) ∧ w' = w) := by intro w; rw [← hc]; exact cmpInt64_calls n v w
      clear hc
      go_enter Tryz.func192, Tryz.ntmps192
      go_wp2_with (first | (go_at_call 198; refine (isNaN_calls _ _).mono ?_; rintro e w2 ⟨rfl, rfl⟩) | (go_at_call 197; refine (mathFloor_calls _ HF.out hE _).mono ?_; rintro e w2 ⟨rfl, rfl⟩) | (go_at_call 229; refine (hC.out _).mono ?_; rintro e w2 ⟨rfl, rfl⟩))
      go_ret; exact ⟨rfl, rfl⟩
    rw [if_neg g2]
    by_cases g3 : FloatKind.f64.format.order f (Fl.floorW f) = some .gt
    · rw [if_pos g3]
      have hc : cmpI n v = 0 := by unfold cmpI; rw [if_neg g1, if_neg g2]
      have hC : Hid (∀ w, Calls Tryz.prog 229 #[.int .i64 n, .int .i64 v] w fun e w' => e = .returned (.int .i64 0) ∧ w' = w) := by intro w; rw [← hc]; exact cmpInt64_calls n v w
      clear hc
      go_enter Tryz.func192, Tryz.ntmps192
      go_wp2_with (first | (go_at_call 198; refine (isNaN_calls _ _).mono ?_; rintro e w2 ⟨rfl, rfl⟩) | (go_at_call 197; refine (mathFloor_calls _ HF.out hE _).mono ?_; rintro e w2 ⟨rfl, rfl⟩) | (go_at_call 229; refine (hC.out _).mono ?_; rintro e w2 ⟨rfl, rfl⟩))
      go_ret; exact ⟨rfl, rfl⟩
    · rw [if_neg g3]
      have g3' : (FloatKind.f64.format.order f (Fl.floorW f) == some .gt) = false := by simpa using g3
      have hc : cmpI n v = 0 := by unfold cmpI; rw [if_neg g1, if_neg g2]
      have hC : Hid (∀ w, Calls Tryz.prog 229 #[.int .i64 n, .int .i64 v] w fun e w' => e = .returned (.int .i64 0) ∧ w' = w) := by intro w; rw [← hc]; exact cmpInt64_calls n v w
      clear hc
      go_enter Tryz.func192, Tryz.ntmps192
      go_wp2_with (first | (go_at_call 198; refine (isNaN_calls _ _).mono ?_; rintro e w2 ⟨rfl, rfl⟩) | (go_at_call 197; refine (mathFloor_calls _ HF.out hE _).mono ?_; rintro e w2 ⟨rfl, rfl⟩) | (go_at_call 229; refine (hC.out _).mono ?_; rintro e w2 ⟨rfl, rfl⟩))
      go_ret; exact ⟨rfl, rfl⟩

set_option maxRecDepth 100000 in
set_option maxHeartbeats 2000000 in
theorem orderMixed_nan (n : Int) (f : Nat) (hE : FloatKind.f64.format.order f f = none) (w : World) : Calls Tryz.prog 192 #[.int .i64 n, .float .f64 f] w fun e w' => e = .returned (.int .i64 2) ∧ w' = w := by
  go_enter Tryz.func192, Tryz.ntmps192
  go_wp2_with (go_at_call 198; refine (isNaN_calls _ _).mono ?_; rintro e w2 ⟨rfl, rfl⟩)
  go_ret; exact ⟨rfl, rfl⟩
end Go.Proofs.YtiidepafifodjabGreat
