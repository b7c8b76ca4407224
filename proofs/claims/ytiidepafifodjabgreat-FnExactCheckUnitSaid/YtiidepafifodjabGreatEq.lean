import Derived.Test.YtiidepafifodjabGreatFloor
import Derived.Test.YtiidepafifodjabGreatFl
import Derived.Laws.FloatArith
import Derived.Test.YtiidepafifodjabGreatPlain
import Derived.Laws.Externs
/-! laws.sameFloat, laws.eqValue, laws.eqValued; spec.l1fail and its kin. -/
namespace Go.Proofs.YtiidepafifodjabGreat
open Go.RowKit
attribute [local go_sem] run_store_float

theorem lt64 {f : Nat} (h : (Lit.float .f64 f).wf = true) : f < 2 ^ 64 := by simpa [Lit.wf] using h

theorem order_self {f : Nat} (h : f < 2 ^ 64) : FloatKind.f64.format.order f f = some Ordering.eq ∨ FloatKind.f64.format.order f f = none := by
  show Ieee.double.order f f = _ ∨ Ieee.double.order f f = _
  rcases Fl.sort3 h with ⟨s, M, hf, _, _⟩ | ⟨s, hr, _⟩ | ⟨s, t, hr⟩
  · left; rw [Fl.order_fin hf hf, Int.compare_eq_eq.2 rfl]
  · left; unfold Ieee.Format.order; rw [hr]; cases s <;> rfl
  · right; unfold Ieee.Format.order; rw [hr]; rfl

/-- one over a zero is an infinity -/
theorem one_over {f : Nat} (h : f < 2 ^ 64) (hz : fz f = true) : ∃ q, floatBits .quo .f64 4607182418800017408 f = some q := by
  have hz0 : FloatKind.f64.format.order f 0 = some .eq := by simpa [fz] using hz
  have hz' : Ieee.double.order f 0 = some .eq := hz0
  show ∃ q, Ieee.double.div 4607182418800017408 f = some q
  have h1 : Ieee.double.read 4607182418800017408 = .number false 4503599627370496 (-52) := by decide +kernel
  have h0 : Fl.Fin3 0 false 0 := ⟨0, -1074, by decide +kernel, by omega, by omega⟩
  rcases Fl.sort3 h with ⟨s, M, hf, _, _⟩ | ⟨s, hr, _⟩ | ⟨s, t, hr⟩
  · rw [Fl.order_fin hf h0] at hz'
    have hM : Fl.sv s M = Fl.sv false 0 := Int.compare_eq_eq.1 (Option.some.inj hz')
    have hM0 : M = 0 := by unfold Fl.sv at hM; cases s <;> simp at hM <;> omega
    obtain ⟨m, i, g1, _, g3⟩ := hf
    have hm : m = 0 := by
      rw [hM0] at g3
      rcases Nat.mul_eq_zero.1 g3 with h | h
      · exact h
      · have := Nat.two_pow_pos (i + 1074).toNat; omega
    unfold Ieee.Format.div
    rw [h1, g1, hm]
    exact ⟨_, rfl⟩
  · unfold Ieee.Format.order at hz'
    rw [hr] at hz'
    exfalso
    revert hz'
    cases s <;> decide
  · unfold Ieee.Format.order at hz'
    rw [hr] at hz'
    exact absurd hz' (by simp [Ieee.Datum.order])

set_option maxRecDepth 100000 in
set_option maxHeartbeats 1000000 in
theorem sameFloat_same (f : Nat) (h : f < 2 ^ 64) (w : World) :
    Calls Tryz.prog 120 #[.float .f64 f, .float .f64 f] w fun e w' => e = .returned (.bool true) ∧ w' = w := by
  rcases order_self h with ho | ho
  · cases hz : fz f
    · have hz' : (FloatKind.f64.format.order f 0 == some Ordering.eq) = false := hz
      clear hz
      go_enter Tryz.func120, Tryz.ntmps120; go_wp2
      go_ret; exact ⟨rfl, rfl⟩
    · obtain ⟨q, hq⟩ := one_over h hz
      have hz' : FloatKind.f64.format.order f 0 = some Ordering.eq := by simpa [fz] using hz
      have hr := fun (t : TypeId) (w : World) => run_float_arith (P := Tryz.prog) w .quo t .f64 4607182418800017408 f q hq
      clear hz hq
      go_enter Tryz.func120, Tryz.ntmps120; go_wp2
      go_ret; exact ⟨rfl, rfl⟩
  · go_enter Tryz.func120, Tryz.ntmps120; go_wp2
    go_ret; exact ⟨rfl, rfl⟩

set_option maxRecDepth 100000 in
set_option maxHeartbeats 1000000 in
theorem sameFloat_nan (f g : Nat) (h : FloatKind.f64.format.order f f = none) (h' : FloatKind.f64.format.order g g = none) (w : World) :
    Calls Tryz.prog 120 #[.float .f64 f, .float .f64 g] w fun e w' => e = .returned (.bool true) ∧ w' = w := by
  go_enter Tryz.func120, Tryz.ntmps120; go_wp2
  go_ret; exact ⟨rfl, rfl⟩

/-- two floats that sameFloat takes for one -/
def oneF (f g : Nat) : Prop := (f = g ∧ f < 2 ^ 64) ∨ (FloatKind.f64.format.order f f = none ∧ FloatKind.f64.format.order g g = none)

theorem sameFloat_calls (f g : Nat) (h : oneF f g) (w : World) :
    Calls Tryz.prog 120 #[.float .f64 f, .float .f64 g] w fun e w' => e = .returned (.bool true) ∧ w' = w := by
  rcases h with ⟨rfl, h⟩ | ⟨h, h'⟩
  · exact sameFloat_same f h w
  · exact sameFloat_nan f g h h' w

set_option maxRecDepth 100000 in
set_option maxHeartbeats 1000000 in
theorem eqValue_calls (k n : Int) (f g : Nat) (s : ByteArray) (r : Int) (h : oneF f g) (w : World) :
    Calls Tryz.prog 75 #[vOf k n f s r, vOf k n g s r] w fun e w' => e = .returned (.bool true) ∧ Below w.heap.size w w' := by
  have HO : Hid (oneF f g) := h
  clear h
  go_enter Tryz.func75, Tryz.ntmps75
  go_wp2_with (go_at_call 120; refine (sameFloat_calls _ _ HO.out _).mono ?_; rintro e w1 ⟨rfl, rfl⟩)
  go_ret
  exact ⟨rfl, (below_alloc _ _).alloc (by simp) _⟩

set_option maxRecDepth 100000 in
set_option maxHeartbeats 1000000 in
theorem eqValued_calls (c k n : Int) (f g : Nat) (s : ByteArray) (r : Int) (h : oneF f g) (w : World) :
    Calls Tryz.prog 30 #[gV c k n f s r, gV c k n g s r] w fun e w' => e = .returned (.bool true) ∧ Below w.heap.size w w' := by
  have HO : Hid (oneF f g) := h
  clear h
  go_enter Tryz.func30, Tryz.ntmps30
  go_wp2_with (go_at_call 75; refine (eqValue_calls _ _ _ _ _ _ HO.out _).mono ?_; rintro e w1 ⟨rfl, hb1⟩)
  go_ret
  exact ⟨rfl, below_call ((below_alloc _ _).alloc (by simp) _) hb1⟩
end Go.Proofs.YtiidepafifodjabGreat

/-! spec.l1nan, spec.l1floor, math.IsNaN, math.Floor. -/
namespace Go.Proofs.YtiidepafifodjabGreat
open Go.RowKit

abbrev two63 : Nat := 4890909195324358656
abbrev ntwo63 : Nat := 14114281232179134464
abbrev oneW : Nat := 4607182418800017408

theorem big_gen {a b c d M : Nat} (h : a + b = c) (h' : d ≤ c) (hM : ¬ M < 2 ^ a * 2 ^ b) : 2 ^ d ≤ M := by
  rw [← Fl.pow_split h] at hM
  exact Nat.le_trans (Fl.pow_le h') (Nat.le_of_not_lt hM)
theorem ti_form (f : Nat) : ∃ A : Bool → Nat → Sem Value, Extern.MathFloor.toIntegral "math.archFloor" .down #[.float .f64 f] = (match FloatKind.f64.decode f with | .nan s t => A s t | d => pure (.float .f64 (FloatKind.f64.encode (d.integral .down)))) := ⟨_, rfl⟩
theorem floorW_whole' (K : Nat) (hK : K = 2 ^ 1074) {x : Nat} {s : Bool} {M : Nat} (hx : Fl.Fin3 x s M) (he : x = Fl.enc s M) (h : M % K = 0) : Fl.floorW x = x := by
  rw [hK] at h
  exact Fl.floorW_whole hx he h
theorem floorW_zero {x : Nat} {s : Bool} (hx : Fl.Fin3 x s 0) (he : x = Fl.enc s 0) : Fl.floorW x = x := by
  obtain ⟨K, hK⟩ : ∃ K, K = 2 ^ 1074 := ⟨_, rfl⟩
  exact floorW_whole' K hK hx he (Nat.zero_mod K)
theorem cmp_lo (s : Bool) (M E : Nat) (h : M < E) : compare (Fl.sv s M) (Fl.sv false E) = .lt := by
  refine Int.compare_eq_lt.2 ?_
  cases s <;> simp [Fl.sv] <;> omega
theorem cmp_hi (s : Bool) (M E : Nat) (h : M < E) : compare (Fl.sv s M) (Fl.sv true E) = .gt := by
  refine Int.compare_eq_gt.2 ?_
  cases s <;> simp [Fl.sv] <;> omega
theorem cmp_ge (M E : Nat) (h : E ≤ M) : compare (Fl.sv false M) (Fl.sv false E) ≠ .lt := by
  intro h'
  have := Int.compare_eq_lt.1 h'
  simp [Fl.sv] at this; omega
theorem cmp_neg (M E : Nat) (h : M ≠ 0) : compare (Fl.sv true M) (Fl.sv false E) = .lt := by
  refine Int.compare_eq_lt.2 ?_
  simp [Fl.sv]; omega
theorem cmp_le (M E : Nat) (h : E ≤ M) : compare (Fl.sv true M) (Fl.sv true E) ≠ .gt := by
  intro h'
  have := Int.compare_eq_gt.1 h'
  simp [Fl.sv] at this; omega

/-- where a float that is no NaN stands to 0 and the two bounds, and what its floor is there -/
theorem ord_cases {f : Nat} (hf : f < 2 ^ 64) (hn : FloatKind.f64.format.order f f ≠ none) :
    (FloatKind.f64.format.order f 0 = some .eq ∧ Fl.floorW f = f) ∨
    (∃ c d, FloatKind.f64.format.order f 0 = some c ∧ c ≠ .eq ∧ FloatKind.f64.format.order f two63 = some d ∧ d ≠ .lt ∧ Fl.floorW f = f) ∨
    (∃ c d, FloatKind.f64.format.order f 0 = some c ∧ c ≠ .eq ∧ FloatKind.f64.format.order f two63 = some .lt ∧ FloatKind.f64.format.order f ntwo63 = some d ∧ d ≠ .gt ∧ Fl.floorW f = f) ∨
    (∃ c n, FloatKind.f64.format.order f 0 = some c ∧ c ≠ .eq ∧ FloatKind.f64.format.order f two63 = some .lt ∧ FloatKind.f64.format.order f ntwo63 = some .gt ∧
      floatToIntVal .f64 f .i64 = some n ∧ ((FloatKind.f64.format.order (floatOfInt .f64 n) f ≠ some .gt ∧ floatOfInt .f64 n = Fl.floorW f) ∨ (FloatKind.f64.format.order (floatOfInt .f64 n) f = some .gt ∧ floatBits .sub .f64 (floatOfInt .f64 n) oneW = some (Fl.floorW f)))) := by
  have hn' : Ieee.double.order f f ≠ none := hn
  show (Ieee.double.order f 0 = _ ∧ _) ∨ (∃ c d, Ieee.double.order f 0 = _ ∧ _ ∧ Ieee.double.order f two63 = _ ∧ _ ∧ _) ∨ (∃ c d, Ieee.double.order f 0 = _ ∧ _ ∧ Ieee.double.order f two63 = _ ∧ Ieee.double.order f ntwo63 = _ ∧ _ ∧ _) ∨ (∃ c n, Ieee.double.order f 0 = _ ∧ _ ∧ Ieee.double.order f two63 = _ ∧ Ieee.double.order f ntwo63 = _ ∧ _ ∧ ((Ieee.double.order _ f ≠ _ ∧ _) ∨ (Ieee.double.order _ f = _ ∧ _)))
  rcases Fl.sort3 hf with ⟨s, M, hx, hr, he⟩ | ⟨s, hr, he⟩ | ⟨s, t, hr⟩
  · rw [Fl.order_fin hx Fl.fin_zero, Fl.order_fin hx Fl.fin_two63, Fl.order_fin hx Fl.fin_ntwo63]
    by_cases h0 : M = 0
    · left
      subst h0
      refine ⟨?_, floorW_zero hx he⟩
      exact congrArg some (Int.compare_eq_eq.2 (by cases s <;> simp [Fl.sv]))
    · have hc : compare (Fl.sv s M) (Fl.sv false 0) ≠ .eq := by
        intro h
        have := Int.compare_eq_eq.1 h
        cases s <;> simp [Fl.sv] at this <;> exact h0 this
      right
      by_cases hb : M < 2 ^ 63 * 2 ^ 1074
      · right; right
        obtain ⟨n, g1, g2⟩ := Fl.l1floor_mid hx hr h0 hb
        exact ⟨_, n, rfl, hc, congrArg some (cmp_lo s _ _ hb), congrArg some (cmp_hi s _ _ hb), g1, g2⟩
      · have hw : Fl.floorW f = f := Fl.floorW_whole hx he (Fl.rep_big hr (big_gen (a := 63) (b := 1074) (c := 1137) (d := 1127) rfl (by decide) hb))
        have hb' := Nat.le_of_not_lt hb
        cases s
        · left
          exact ⟨_, _, rfl, hc, rfl, cmp_ge _ _ hb', hw⟩
        · right; left
          exact ⟨_, _, rfl, hc, congrArg some (cmp_neg _ _ h0), rfl, cmp_le _ _ hb', hw⟩
  · obtain ⟨m0, i0, z1, _, _⟩ := Fl.fin_zero
    obtain ⟨m1, i1, z2, _, _⟩ := Fl.fin_two63
    obtain ⟨m2, i2, z3, _, _⟩ := Fl.fin_ntwo63
    have hw := Fl.floorW_inf hr he
    unfold Ieee.Format.order
    rw [hr, z1, z2, z3]
    right
    cases s
    · left; exact ⟨.gt, .gt, rfl, by decide, rfl, by decide, hw⟩
    · right; left; exact ⟨.lt, .lt, rfl, by decide, rfl, rfl, by decide, hw⟩
  · exfalso
    refine hn' ?_
    unfold Ieee.Format.order
    rw [hr]; rfl

set_option maxRecDepth 100000 in
set_option maxHeartbeats 1000000 in
theorem l1nan_calls (f : Nat) (w : World) : Calls Tryz.prog 55 #[.float .f64 f] w fun e w' => e = .returned (.bool (FloatKind.f64.format.order f f != some .eq)) ∧ w' = w := by
  go_enter Tryz.func55, Tryz.ntmps55; go_wp2
  go_ret; exact ⟨rfl, rfl⟩

set_option maxRecDepth 100000 in
set_option maxHeartbeats 1000000 in
theorem isNaN_calls (f : Nat) (w : World) : Calls Tryz.prog 198 #[.float .f64 f] w fun e w' => e = .returned (.bool (FloatKind.f64.format.order f f != some .eq)) ∧ w' = w := by
  go_enter Tryz.func198, Tryz.ntmps198; go_wp2
  go_ret; exact ⟨rfl, rfl⟩

set_option maxRecDepth 100000 in
set_option maxHeartbeats 1000000 in
theorem floor_nan (f : Nat) (h : FloatKind.f64.format.order f f = none) (w : World) : Calls Tryz.prog 108 #[.float .f64 f] w fun e w' => e = .returned (.float .f64 f) ∧ w' = w := by
  go_enter Tryz.func108, Tryz.ntmps108
  go_wp2_with (go_at_call 55; refine (l1nan_calls _ _).mono ?_; rintro e w1 ⟨rfl, rfl⟩)
  go_ret; exact ⟨rfl, rfl⟩

set_option maxRecDepth 100000 in
set_option maxHeartbeats 2000000 in
theorem l1floor_calls (f : Nat) (hf : f < 2 ^ 64) (h : FloatKind.f64.format.order f f = some .eq) (w : World) : Calls Tryz.prog 108 #[.float .f64 f] w fun e w' => e = .returned (.float .f64 (Fl.floorW f)) ∧ w' = w := by
  rcases ord_cases hf (by rw [h]; simp) with ⟨a, e⟩ | ⟨c, d, a, ha, b, hb, e⟩ | ⟨c, d, a, ha, b, b', hb, e⟩ | ⟨c, n, a, ha, b, b', g, e⟩
  · rw [e]; clear e hf
    go_enter Tryz.func108, Tryz.ntmps108
    go_wp2_with (go_at_call 55; refine (l1nan_calls _ _).mono ?_; rintro e w1 ⟨rfl, rfl⟩)
    go_ret; exact ⟨rfl, rfl⟩
  · rw [e]; clear e hf
    cases c <;> cases d <;> first | exact absurd rfl ha | exact absurd rfl hb | skip
    all_goals
      clear ha hb
      go_enter Tryz.func108, Tryz.ntmps108
      go_wp2_with (go_at_call 55; refine (l1nan_calls _ _).mono ?_; rintro e w1 ⟨rfl, rfl⟩)
      go_ret; exact ⟨rfl, rfl⟩
  · rw [e]; clear e hf
    cases c <;> cases d <;> first | exact absurd rfl ha | exact absurd rfl hb | skip
    all_goals
      clear ha hb
      go_enter Tryz.func108, Tryz.ntmps108
      go_wp2_with (go_at_call 55; refine (l1nan_calls _ _).mono ?_; rintro e w1 ⟨rfl, rfl⟩)
      go_ret; exact ⟨rfl, rfl⟩
  · clear hf
    have hcv := fun (w : World) => run_convert_float_int (P := Tryz.prog) w 42 2 .f64 .i64 f n (by rw [Tryz.underlying42]; rfl) Tryz.underlying2 g
    clear g
    rcases e with ⟨e1, e2⟩ | ⟨e1, e2⟩
    · rw [← e2]; clear e2
      have e1' : (FloatKind.f64.format.order (floatOfInt .f64 n) f == some .gt) = false := by simpa using e1
      clear e1
      cases c <;> first | exact absurd rfl ha | skip
      all_goals
        clear ha
        go_enter Tryz.func108, Tryz.ntmps108
        go_wp2_with (go_at_call 55; refine (l1nan_calls _ _).mono ?_; rintro e w1 ⟨rfl, rfl⟩)
        go_ret; exact ⟨rfl, rfl⟩
    · have hsb := fun (t : TypeId) (w : World) => run_float_arith (P := Tryz.prog) w .sub t .f64 (floatOfInt .f64 n) oneW _ e2
      clear e2
      cases c <;> first | exact absurd rfl ha | skip
      all_goals
        clear ha
        go_enter Tryz.func108, Tryz.ntmps108
        go_wp2_with (go_at_call 55; refine (l1nan_calls _ _).mono ?_; rintro e w1 ⟨rfl, rfl⟩)
        go_ret; exact ⟨rfl, rfl⟩

theorem archFloor_run (f : Nat) (hf : f < 2 ^ 64) (h : FloatKind.f64.format.order f f = some .eq) (w : World) : (callFunc 232 #[.float .f64 f]).run Tryz.prog w = .ok (.value (.float .f64 (Fl.floorW f))) w := by
  rw [run_callFunc_extern Tryz.func232 (by kernel_rfl) (by kernel_rfl) (by kernel_rfl) (show Extern.find Tryz.f232 = some (Extern.MathFloor.toIntegral "math.archFloor" .down) by kernel_rfl)]
  have hr : (Extern.MathFloor.toIntegral "math.archFloor" .down #[.float .f64 f]).run Tryz.prog w = .ok (.float .f64 (Fl.floorW f)) w := by
    obtain ⟨A, hA⟩ := ti_form f
    rw [hA]
    have hd : FloatKind.f64.decode f = Ieee.double.read f := rfl
    rcases Fl.sort3 hf with ⟨s, M, ⟨m, i, g, _, _⟩, _, _⟩ | ⟨s, g, _⟩ | ⟨s, t, g⟩
    · rw [hd, g]; unfold Fl.floorW; rw [g]; rfl
    · rw [hd, g]; unfold Fl.floorW; rw [g]; rfl
    · exfalso
      have h' : Ieee.double.order f f = some .eq := h
      unfold Ieee.Format.order at h'
      rw [g] at h'
      cases h'
  rw [hr]
  rfl

set_option maxRecDepth 100000 in
set_option maxHeartbeats 1000000 in
theorem mathFloor_calls (f : Nat) (hf : f < 2 ^ 64) (h : FloatKind.f64.format.order f f = some .eq) (w : World) : Calls Tryz.prog 197 #[.float .f64 f] w fun e w' => e = .returned (.float .f64 (Fl.floorW f)) ∧ w' = w := by
  have hx := archFloor_run f hf h
  clear hf h
  go_enter Tryz.func197, Tryz.ntmps197; go_wp2
  go_ret; exact ⟨rfl, rfl⟩
end Go.Proofs.YtiidepafifodjabGreat
