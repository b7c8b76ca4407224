import Derived.Test.YtiidepafifodjabGreatGives
import Derived.Test.YtiidepafifodjabGreatFl
import Derived.Laws.FloatArith
/-! laws.sameFloat, laws.eqValue, laws.eqValued; spec.l1fail and its kin. -/
namespace Go.Proofs.YtiidepafifodjabGreat
open Go.RowKit
attribute [local go_sem] run_store_float

theorem lt64 {f : Nat} (h : (Lit.float .f64 f).wf = true) : f < 2 ^ 64 := by simpa [Lit.wf] using h

theorem order_self {f : Nat} (h : f < 2 ^ 64) : FloatKind.f64.format.order f f = some Ordering.eq ∨ FloatKind.f64.format.order f f = none := by
  show Ieee.double.order f f = _ ∨ Ieee.double.order f f = _
  rcases Fl.sort3 h with ⟨s, M, hf, _, _⟩ | ⟨s, hr, _⟩ | ⟨s, t, hr⟩
  · left; rw [Fl.order_fin hf hf, Int.compare_eq_eq.2 rfl]
  · left; unfold Ieee.Format.order; rw [hr]; cases s <;> rfl
  · right; unfold Ieee.Format.order; rw [hr]; rfl

/-- one over a zero is an infinity -/
theorem one_over {f : Nat} (h : f < 2 ^ 64) (hz : fz f = true) : ∃ q, floatBits .quo .f64 4607182418800017408 f = some q := by
  have hz0 : FloatKind.f64.format.order f 0 = some .eq := by simpa [fz] using hz
  have hz' : Ieee.double.order f 0 = some .eq := hz0
  show ∃ q, Ieee.double.div 4607182418800017408 f = some q
  have h1 : Ieee.double.read 4607182418800017408 = .number false 4503599627370496 (-52) := by decide +kernel
  have h0 : Fl.Fin3 0 false 0 := ⟨0, -1074, by decide +kernel, by omega, by omega⟩
  rcases Fl.sort3 h with ⟨s, M, hf, _, _⟩ | ⟨s, hr, _⟩ | ⟨s, t, hr⟩
  · rw [Fl.order_fin hf h0] at hz'
    have hM : Fl.sv s M = Fl.sv false 0 := Int.compare_eq_eq.1 (Option.some.inj hz')
    have hM0 : M = 0 := by unfold Fl.sv at hM; cases s <;> simp at hM <;> omega
    obtain ⟨m, i, g1, _, g3⟩ := hf
    have hm : m = 0 := by
      rw [hM0] at g3
      rcases Nat.mul_eq_zero.1 g3 with h | h
      · exact h
      · have := Nat.two_pow_pos (i + 1074).toNat; omega
    unfold Ieee.Format.div
    rw [h1, g1, hm]
    exact ⟨_, rfl⟩
  · unfold Ieee.Format.order at hz'
    rw [hr] at hz'
    exfalso
    revert hz'
    cases s <;> decide
  · unfold Ieee.Format.order at hz'
    rw [hr] at hz'
    exact absurd hz' (by simp [Ieee.Datum.order])

set_option maxRecDepth 100000 in
set_option maxHeartbeats 1000000 in
theorem sameFloat_same (f : Nat) (h : f < 2 ^ 64) (w : World) :
    Calls Tryz.prog 120 #[.float .f64 f, .float .f64 f] w fun e w' => e = .returned (.bool true) ∧ w' = w := by
  rcases order_self h with ho | ho
  · cases hz : fz f
    · have hz' : (FloatKind.f64.format.order f 0 == some Ordering.eq) = false := hz
      clear hz
      go_enter Tryz.func120, Tryz.ntmps120; go_wp2
      go_ret; exact ⟨rfl, rfl⟩
    · obtain ⟨q, hq⟩ := one_over h hz
      have hz' : FloatKind.f64.format.order f 0 = some Ordering.eq := by simpa [fz] using hz
      have hr := fun (t : TypeId) (w : World) => run_float_arith (P := Tryz.prog) w .quo t .f64 4607182418800017408 f q hq
      clear hz hq
      go_enter Tryz.func120, Tryz.ntmps120; go_wp2
      go_ret; exact ⟨rfl, rfl⟩
  · go_enter Tryz.func120, Tryz.ntmps120; go_wp2
    go_ret; exact ⟨rfl, rfl⟩

set_option maxRecDepth 100000 in
set_option maxHeartbeats 1000000 in
theorem sameFloat_nan (f g : Nat) (h : FloatKind.f64.format.order f f = none) (h' : FloatKind.f64.format.order g g = none) (w : World) :
    Calls Tryz.prog 120 #[.float .f64 f, .float .f64 g] w fun e w' => e = .returned (.bool true) ∧ w' = w := by
  go_enter Tryz.func120, Tryz.ntmps120; go_wp2
  go_ret; exact ⟨rfl, rfl⟩

/-- two floats that sameFloat takes for one -/
def oneF (f g : Nat) : Prop := (f = g ∧ f < 2 ^ 64) ∨ (FloatKind.f64.format.order f f = none ∧ FloatKind.f64.format.order g g = none)

theorem sameFloat_calls (f g : Nat) (h : oneF f g) (w : World) :
    Calls Tryz.prog 120 #[.float .f64 f, .float .f64 g] w fun e w' => e = .returned (.bool true) ∧ w' = w := by
  rcases h with ⟨rfl, h⟩ | ⟨h, h'⟩
  · exact sameFloat_same f h w
  · exact sameFloat_nan f g h h' w

set_option maxRecDepth 100000 in
set_option maxHeartbeats 1000000 in
theorem eqValue_calls (k n : Int) (f g : Nat) (s : ByteArray) (r : Int) (h : oneF f g) (w : World) :
    Calls Tryz.prog 75 #[vOf k n f s r, vOf k n g s r] w fun e w' => e = .returned (.bool true) ∧ Below w.heap.size w w' := by
  have HO : Hid (oneF f g) := h
  clear h
  go_enter Tryz.func75, Tryz.ntmps75
  go_wp2_with (go_at_call 120; refine (sameFloat_calls _ _ HO.out _).mono ?_; rintro e w1 ⟨rfl, rfl⟩)
  go_ret
  exact ⟨rfl, (below_alloc _ _).alloc (by simp) _⟩

set_option maxRecDepth 100000 in
set_option maxHeartbeats 1000000 in
theorem eqValued_calls (c k n : Int) (f g : Nat) (s : ByteArray) (r : Int) (h : oneF f g) (w : World) :
    Calls Tryz.prog 30 #[gV c k n f s r, gV c k n g s r] w fun e w' => e = .returned (.bool true) ∧ Below w.heap.size w w' := by
  have HO : Hid (oneF f g) := h
  clear h
  go_enter Tryz.func30, Tryz.ntmps30
  go_wp2_with (go_at_call 75; refine (eqValue_calls _ _ _ _ _ _ HO.out _).mono ?_; rintro e w1 ⟨rfl, hb1⟩)
  go_ret
  exact ⟨rfl, below_call ((below_alloc _ _).alloc (by simp) _) hb1⟩
end Go.Proofs.YtiidepafifodjabGreat
