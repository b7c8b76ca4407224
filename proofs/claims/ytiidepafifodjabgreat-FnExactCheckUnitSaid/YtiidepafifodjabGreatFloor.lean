import Derived.Test.YtiidepafifodjabGreatFl
import Derived.Laws.FloatArith
import Derived.Test.YtiidepafifodjabGreatPlain
/-! The floor of a float: what the program's library gives, and what the model's own steps give. -/
namespace Go.Proofs.YtiidepafifodjabGreat.Fl
open Ieee

/-- the word of the floor -/
def floorW (x : Nat) : Nat := double.write ((double.read x).integral .down)

theorem pow_le {a b : Nat} (h : a ≤ b) : 2 ^ a ≤ 2 ^ b := Nat.pow_le_pow_right (by omega) h
theorem pow_join {a b c : Nat} (h : a + b = c) : 2 ^ a * 2 ^ b = 2 ^ c := (pow_split h).symm
theorem pow_turn {a b c d : Nat} (h : a + b = c + d) : 2 ^ a * 2 ^ b = 2 ^ c * 2 ^ d := by rw [← Nat.pow_add, ← Nat.pow_add, h]

theorem floorW_fin {x : Nat} {s : Bool} {M : Nat} (hx : Fin3 x s M) : floorW x = enc s ((M / 2 ^ 1074 + (s && M % 2 ^ 1074 != 0).toNat) * 2 ^ 1074) := integral_down hx

/-- where nothing is left over the floor is the float itself -/
theorem floorW_whole {x : Nat} {s : Bool} {M : Nat} (hx : Fin3 x s M) (he : x = enc s M) (h : M % 2 ^ 1074 = 0) : floorW x = x := by
  rw [floorW_fin hx, h]
  have e : (s && (0 : Nat) != 0).toNat = 0 := by simp
  rw [e, Nat.add_zero, Nat.div_mul_cancel (Nat.dvd_of_mod_eq_zero h)]
  exact he.symm

theorem floorW_inf {x : Nat} {s : Bool} (h : double.read x = .infinity s) (he : x = double.word s double.infRung) : floorW x = x := by
  unfold floorW
  rw [h]
  exact he.symm

/-- a great float is whole -/
theorem rep_big {M : Nat} (h : rep M) (hb : 2 ^ 1127 ≤ M) : M % 2 ^ 1074 = 0 := by
  obtain ⟨q, a, hq, ha, rfl⟩ := h
  have : 1074 ≤ a := by
    refine Nat.le_of_not_lt fun hlt => ?_
    have h1 : q * 2 ^ a < 2 ^ 53 * 2 ^ a := Nat.mul_lt_mul_of_pos_right hq (Nat.two_pow_pos a)
    rw [← Nat.pow_add] at h1
    have h0 : 53 + a ≤ 1127 := by clear hb h1; omega
    have h2 := pow_le h0
    generalize 2 ^ 1127 = E at hb h2
    exact Nat.lt_irrefl _ (Nat.lt_of_lt_of_le (Nat.lt_of_lt_of_le h1 h2) hb)
  rw [pow_split (show a - 1074 + 1074 = a by omega), ← Nat.mul_assoc, Nat.mul_mod_left]

/-- the words of 0, 1, two to the 63 and its opposite -/
theorem fin_zero : Fin3 0 false 0 := ⟨0, -1074, by decide +kernel, by omega, by omega⟩
theorem fin_one : Fin3 4607182418800017408 false (2 ^ 1074) := ⟨2 ^ 52, -52, by decide +kernel, by omega, (pow_join (a := 52) (b := ((-52 : Int) + 1074).toNat) (c := 1074) (by omega))⟩
theorem fin_two63 : Fin3 4890909195324358656 false (2 ^ 63 * 2 ^ 1074) := ⟨2 ^ 52, 11, by decide +kernel, by omega, (pow_turn (a := 52) (b := ((11 : Int) + 1074).toNat) (c := 63) (d := 1074) (by omega))⟩
theorem fin_ntwo63 : Fin3 14114281232179134464 true (2 ^ 63 * 2 ^ 1074) := ⟨2 ^ 52, 11, by decide +kernel, by omega, (pow_turn (a := 52) (b := ((11 : Int) + 1074).toNat) (c := 63) (d := 1074) (by omega))⟩

/-- less than two to the 63 in magnitude: cut to a whole number it fits -/
theorem toInt_val {x : Nat} {s : Bool} {M : Nat} (hx : Fin3 x s M) (h : M < 2 ^ 63 * 2 ^ 1074) : floatToIntVal .f64 x .i64 = some (sv s (M / 2 ^ 1074)) := by
  have hq : M / 2 ^ 1074 < 2 ^ 63 := (Nat.div_lt_iff_lt_mul (Nat.two_pow_pos 1074)).2 h
  unfold floatToIntVal
  have e : (FloatKind.f64.decode x).toInt .zero = some (sv s (M / 2 ^ 1074)) := toInt_zero hx
  rw [e]
  generalize M / 2 ^ 1074 = q at *
  have hr : IntKind.i64.min ≤ sv s q ∧ sv s q ≤ IntKind.i64.max := by
    have h1 : IntKind.i64.min = -9223372036854775808 := by decide
    have h2 : IntKind.i64.max = 9223372036854775807 := by decide
    rw [h1, h2]
    unfold sv
    cases s <;> simp only [if_true, if_false, Bool.false_eq_true] <;> omega
  simp only [hr, and_self, if_true]

/-- a small enough whole number made a float -/
theorem ofInt (n : Int) : floatOfInt .f64 n = enc (decide (n < 0)) (n.natAbs * 2 ^ 1074) := nearest_int n

theorem toInt_gen {x : Nat} {s : Bool} {M : Nat} (hx : Fin3 x s M) (h1 : -9223372036854775808 ≤ sv s (M / 2 ^ 1074)) (h2 : sv s (M / 2 ^ 1074) ≤ 9223372036854775807) : floatToIntVal .f64 x .i64 = some (sv s (M / 2 ^ 1074)) := by
  unfold floatToIntVal
  have e : (FloatKind.f64.decode x).toInt .zero = some (sv s (M / 2 ^ 1074)) := toInt_zero hx
  rw [e]
  generalize sv s (M / 2 ^ 1074) = q at *
  have hr : IntKind.i64.min ≤ q ∧ q ≤ IntKind.i64.max := by
    have g1 : IntKind.i64.min = -9223372036854775808 := by decide
    have g2 : IntKind.i64.max = 9223372036854775807 := by decide
    rw [g1, g2]
    exact ⟨h1, h2⟩
  simp only [hr, and_self, if_true]

theorem K_pos : 0 < 2 ^ 1074 := Nat.two_pow_pos 1074

theorem sv_natAbs (s : Bool) (q : Nat) : (sv s q).natAbs = q := by unfold sv; cases s <;> simp

theorem div_mod (M k : Nat) : M / k * k + M % k = M := Nat.div_add_mod' M k

/-- the model's own floor of a float between the two bounds: cut to a whole number, and one less where that is too much -/
theorem l1floor_mid {x : Nat} {s : Bool} {M : Nat} (hx : Fin3 x s M) (hr : rep M) (h0 : M ≠ 0) (hb : M < 2 ^ 63 * 2 ^ 1074) :
    ∃ n, floatToIntVal .f64 x .i64 = some n ∧ ((double.order (floatOfInt .f64 n) x ≠ some .gt ∧ floatOfInt .f64 n = floorW x) ∨ (double.order (floatOfInt .f64 n) x = some .gt ∧ floatBits .sub .f64 (floatOfInt .f64 n) 4607182418800017408 = some (floorW x))) := by
  refine ⟨_, toInt_val hx hb, ?_⟩
  rw [ofInt, sv_natAbs, floorW_fin hx]
  have hrt := rep_trunc hr
  have hdm := div_mod M (2 ^ 1074)
  have hsm := whole_small hr
  have hK := K_pos
  have hone : Fin3 4607182418800017408 false (2 ^ 1074) := fin_one
  have ht := fun b => read_enc b hrt
  generalize 2 ^ 1074 = K at *
  generalize hq : M / K = q at *
  generalize hm : M % K = m at *
  cases s
  · left
    have e1 : decide (sv false q < 0) = false := by simp [sv]
    rw [e1]
    have e2 : (q + (false && m != 0).toNat) = q := by simp
    rw [e2]
    refine ⟨?_, rfl⟩
    rw [order_fin (ht false) hx]
    intro h
    have := Int.compare_eq_gt.1 (Option.some.inj h)
    simp only [sv, Bool.false_eq_true, if_false] at this
    omega
  · by_cases hm0 : m = 0
    · left
      have hq0 : q ≠ 0 := by intro h; rw [h, hm0] at hdm; simp at hdm; omega
      have e1 : decide (sv true q < 0) = true := by simp [sv]; omega
      rw [e1]
      have e2 : (q + (true && m != 0).toNat) = q := by simp [hm0]
      rw [e2]
      refine ⟨?_, rfl⟩
      rw [order_fin (ht true) hx]
      intro h
      have := Int.compare_eq_gt.1 (Option.some.inj h)
      simp only [sv, if_true] at this
      omega
    · right
      have e2 : (q + (true && m != 0).toNat) = q + 1 := by simp [hm0]
      rw [e2]
      have hv : ∀ b, b = decide (sv true q < 0) → sv b (q * K) = -((q * K : Nat) : Int) := by
        intro b hb
        subst hb
        by_cases hq0 : q = 0
        · subst hq0; simp [sv]
        · have : decide (sv true q < 0) = true := by simp [sv]; omega
          rw [this]; simp [sv]
      refine ⟨?_, ?_⟩
      · rw [order_fin (ht _) hx, hv _ rfl]
        congr 1
        refine Int.compare_eq_gt.2 ?_
        simp only [sv, if_true]
        omega
      · show double.sub _ _ = _
        have hd : sv (decide (sv true q < 0)) (q * K) - sv false K = -(((q + 1) * K : Nat) : Int) := by
          rw [hv _ rfl, Nat.add_mul]; simp [sv]; omega
        have hp : 0 < (q + 1) * K := Nat.mul_pos (by omega) hK
        rw [sub_fin (ht _) hone (by rw [hd]; omega), hd]
        generalize (q + 1) * K = Z at hp ⊢
        congr 2
        · simp; omega
        · simp

/-- the floor of a float between the bounds, as a whole number -/
theorem floor_toInt {x : Nat} {s : Bool} {M : Nat} (hx : Fin3 x s M) (hr : rep M) (h1 : -((2 ^ 63 * 2 ^ 1074 : Nat) : Int) ≤ sv s M) (h2 : sv s M < ((2 ^ 63 * 2 ^ 1074 : Nat) : Int)) :
    ∃ v, floatToIntVal .f64 (floorW x) .i64 = some v := by
  have hdm := div_mod M (2 ^ 1074)
  have hsm := whole_small hr
  have hrt := rep_trunc hr
  have hQ : ∃ Q, rep (Q * 2 ^ 1074) ∧ floorW x = enc s (Q * 2 ^ 1074) ∧ -9223372036854775808 ≤ sv s Q ∧ sv s Q ≤ 9223372036854775807 := by
    rw [floorW_fin hx]
    refine ⟨_, ?_, rfl, ?_⟩
    · by_cases hm : (s && M % 2 ^ 1074 != 0) = true
      · rw [hm]
        have := hsm (by rw [Bool.and_eq_true] at hm; exact bne_iff_ne.1 hm.2)
        refine rep_int ?_
        generalize M / 2 ^ 1074 = q at *
        simp; omega
      · rw [Bool.not_eq_true] at hm
        rw [hm]
        exact hrt
    · have hK := K_pos
      generalize 2 ^ 1074 = K at *
      generalize hq : M / K = q at *
      generalize hm : M % K = m at *
      cases s
      · have e2 : (q + (false && m != 0).toNat) = q := by simp
        rw [e2]
        simp only [sv, Bool.false_eq_true, if_false] at h2 ⊢
        have : q * K < 2 ^ 63 * K := by omega
        have := Nat.lt_of_mul_lt_mul_right this
        omega
      · by_cases hm0 : m = 0
        · have e2 : (q + (true && m != 0).toNat) = q := by simp [hm0]
          rw [e2]
          simp only [sv, if_true] at h1 ⊢
          have : q * K ≤ 2 ^ 63 * K := by omega
          have := Nat.le_of_mul_le_mul_right this hK
          omega
        · have := hsm hm0
          have e2 : (q + (true && m != 0).toNat) = q + 1 := by simp [hm0]
          rw [e2]
          simp only [sv, if_true]
          omega
  obtain ⟨Q, hrQ, hQ, l1, l2⟩ := hQ
  rw [hQ]
  have e : Q * 2 ^ 1074 / 2 ^ 1074 = Q := Nat.mul_div_cancel _ K_pos
  have := toInt_gen (read_enc s hrQ) (by rw [e]; exact l1) (by rw [e]; exact l2)
  exact ⟨_, this⟩

end Go.Proofs.YtiidepafifodjabGreat.Fl

/-! Type assertions on a thing: closed facts of the program's tables. -/
namespace Go.Proofs.YtiidepafifodjabGreat
open Go.RowKit
theorem ta_nil_absent (w : World) : (Instr.typeAssert .nilIface 79 139 true).run Tryz.prog w = .ok (.tuple #[.agg #[], .bool false]) w := by kernel_rfl
theorem ta_absent_absent (x : Value) (w : World) : (Instr.typeAssert (.iface 139 x) 79 139 true).run Tryz.prog w = .ok (.tuple #[x, .bool true]) w := by kernel_rfl
theorem ta_flag_absent (x : Value) (w : World) : (Instr.typeAssert (.iface 90 x) 79 139 true).run Tryz.prog w = .ok (.tuple #[.agg #[], .bool false]) w := by kernel_rfl
theorem ta_whole_absent (x : Value) (w : World) : (Instr.typeAssert (.iface 140 x) 79 139 true).run Tryz.prog w = .ok (.tuple #[.agg #[], .bool false]) w := by kernel_rfl
theorem ta_float_absent (x : Value) (w : World) : (Instr.typeAssert (.iface 141 x) 79 139 true).run Tryz.prog w = .ok (.tuple #[.agg #[], .bool false]) w := by kernel_rfl
theorem ta_word_absent (x : Value) (w : World) : (Instr.typeAssert (.iface 142 x) 79 139 true).run Tryz.prog w = .ok (.tuple #[.agg #[], .bool false]) w := by kernel_rfl
theorem ta_builtin_absent (x : Value) (w : World) : (Instr.typeAssert (.iface 145 x) 79 139 true).run Tryz.prog w = .ok (.tuple #[.agg #[], .bool false]) w := by kernel_rfl
theorem ta_made_absent (x : Value) (w : World) : (Instr.typeAssert (.iface 144 x) 79 139 true).run Tryz.prog w = .ok (.tuple #[.agg #[], .bool false]) w := by kernel_rfl
theorem ta_nil_flag (w : World) : (Instr.typeAssert .nilIface 79 90 true).run Tryz.prog w = .ok (.tuple #[.bool false, .bool false]) w := by kernel_rfl
theorem ta_absent_flag (x : Value) (w : World) : (Instr.typeAssert (.iface 139 x) 79 90 true).run Tryz.prog w = .ok (.tuple #[.bool false, .bool false]) w := by kernel_rfl
theorem ta_flag_flag (x : Value) (w : World) : (Instr.typeAssert (.iface 90 x) 79 90 true).run Tryz.prog w = .ok (.tuple #[x, .bool true]) w := by kernel_rfl
theorem ta_whole_flag (x : Value) (w : World) : (Instr.typeAssert (.iface 140 x) 79 90 true).run Tryz.prog w = .ok (.tuple #[.bool false, .bool false]) w := by kernel_rfl
theorem ta_float_flag (x : Value) (w : World) : (Instr.typeAssert (.iface 141 x) 79 90 true).run Tryz.prog w = .ok (.tuple #[.bool false, .bool false]) w := by kernel_rfl
theorem ta_word_flag (x : Value) (w : World) : (Instr.typeAssert (.iface 142 x) 79 90 true).run Tryz.prog w = .ok (.tuple #[.bool false, .bool false]) w := by kernel_rfl
theorem ta_builtin_flag (x : Value) (w : World) : (Instr.typeAssert (.iface 145 x) 79 90 true).run Tryz.prog w = .ok (.tuple #[.bool false, .bool false]) w := by kernel_rfl
theorem ta_made_flag (x : Value) (w : World) : (Instr.typeAssert (.iface 144 x) 79 90 true).run Tryz.prog w = .ok (.tuple #[.bool false, .bool false]) w := by kernel_rfl
theorem ta_nil_whole (w : World) : (Instr.typeAssert .nilIface 79 140 true).run Tryz.prog w = .ok (.tuple #[.int .i64 0, .bool false]) w := by kernel_rfl
theorem ta_absent_whole (x : Value) (w : World) : (Instr.typeAssert (.iface 139 x) 79 140 true).run Tryz.prog w = .ok (.tuple #[.int .i64 0, .bool false]) w := by kernel_rfl
theorem ta_flag_whole (x : Value) (w : World) : (Instr.typeAssert (.iface 90 x) 79 140 true).run Tryz.prog w = .ok (.tuple #[.int .i64 0, .bool false]) w := by kernel_rfl
theorem ta_whole_whole (x : Value) (w : World) : (Instr.typeAssert (.iface 140 x) 79 140 true).run Tryz.prog w = .ok (.tuple #[x, .bool true]) w := by kernel_rfl
theorem ta_float_whole (x : Value) (w : World) : (Instr.typeAssert (.iface 141 x) 79 140 true).run Tryz.prog w = .ok (.tuple #[.int .i64 0, .bool false]) w := by kernel_rfl
theorem ta_word_whole (x : Value) (w : World) : (Instr.typeAssert (.iface 142 x) 79 140 true).run Tryz.prog w = .ok (.tuple #[.int .i64 0, .bool false]) w := by kernel_rfl
theorem ta_builtin_whole (x : Value) (w : World) : (Instr.typeAssert (.iface 145 x) 79 140 true).run Tryz.prog w = .ok (.tuple #[.int .i64 0, .bool false]) w := by kernel_rfl
theorem ta_made_whole (x : Value) (w : World) : (Instr.typeAssert (.iface 144 x) 79 140 true).run Tryz.prog w = .ok (.tuple #[.int .i64 0, .bool false]) w := by kernel_rfl
theorem ta_nil_float (w : World) : (Instr.typeAssert .nilIface 79 141 true).run Tryz.prog w = .ok (.tuple #[.float .f64 0, .bool false]) w := by kernel_rfl
theorem ta_absent_float (x : Value) (w : World) : (Instr.typeAssert (.iface 139 x) 79 141 true).run Tryz.prog w = .ok (.tuple #[.float .f64 0, .bool false]) w := by kernel_rfl
theorem ta_flag_float (x : Value) (w : World) : (Instr.typeAssert (.iface 90 x) 79 141 true).run Tryz.prog w = .ok (.tuple #[.float .f64 0, .bool false]) w := by kernel_rfl
theorem ta_whole_float (x : Value) (w : World) : (Instr.typeAssert (.iface 140 x) 79 141 true).run Tryz.prog w = .ok (.tuple #[.float .f64 0, .bool false]) w := by kernel_rfl
theorem ta_float_float (x : Value) (w : World) : (Instr.typeAssert (.iface 141 x) 79 141 true).run Tryz.prog w = .ok (.tuple #[x, .bool true]) w := by kernel_rfl
theorem ta_word_float (x : Value) (w : World) : (Instr.typeAssert (.iface 142 x) 79 141 true).run Tryz.prog w = .ok (.tuple #[.float .f64 0, .bool false]) w := by kernel_rfl
theorem ta_builtin_float (x : Value) (w : World) : (Instr.typeAssert (.iface 145 x) 79 141 true).run Tryz.prog w = .ok (.tuple #[.float .f64 0, .bool false]) w := by kernel_rfl
theorem ta_made_float (x : Value) (w : World) : (Instr.typeAssert (.iface 144 x) 79 141 true).run Tryz.prog w = .ok (.tuple #[.float .f64 0, .bool false]) w := by kernel_rfl
theorem ta_nil_word (w : World) : (Instr.typeAssert .nilIface 79 142 true).run Tryz.prog w = .ok (.tuple #[.string ⟨#[]⟩, .bool false]) w := by kernel_rfl
theorem ta_absent_word (x : Value) (w : World) : (Instr.typeAssert (.iface 139 x) 79 142 true).run Tryz.prog w = .ok (.tuple #[.string ⟨#[]⟩, .bool false]) w := by kernel_rfl
theorem ta_flag_word (x : Value) (w : World) : (Instr.typeAssert (.iface 90 x) 79 142 true).run Tryz.prog w = .ok (.tuple #[.string ⟨#[]⟩, .bool false]) w := by kernel_rfl
theorem ta_whole_word (x : Value) (w : World) : (Instr.typeAssert (.iface 140 x) 79 142 true).run Tryz.prog w = .ok (.tuple #[.string ⟨#[]⟩, .bool false]) w := by kernel_rfl
theorem ta_float_word (x : Value) (w : World) : (Instr.typeAssert (.iface 141 x) 79 142 true).run Tryz.prog w = .ok (.tuple #[.string ⟨#[]⟩, .bool false]) w := by kernel_rfl
theorem ta_word_word (x : Value) (w : World) : (Instr.typeAssert (.iface 142 x) 79 142 true).run Tryz.prog w = .ok (.tuple #[x, .bool true]) w := by kernel_rfl
theorem ta_builtin_word (x : Value) (w : World) : (Instr.typeAssert (.iface 145 x) 79 142 true).run Tryz.prog w = .ok (.tuple #[.string ⟨#[]⟩, .bool false]) w := by kernel_rfl
theorem ta_made_word (x : Value) (w : World) : (Instr.typeAssert (.iface 144 x) 79 142 true).run Tryz.prog w = .ok (.tuple #[.string ⟨#[]⟩, .bool false]) w := by kernel_rfl
end Go.Proofs.YtiidepafifodjabGreat

/-! impl.failed and impl.gives. -/
namespace Go.Proofs.YtiidepafifodjabGreat
open Go.RowKit
attribute [local go_sem] run_store_float

abbrev gV (c k n : Int) (f : Nat) (s : ByteArray) (r : Int) : Value := .agg #[.int .i64 c, .int .i64 k, .int .i64 n, .float .f64 f, .string s, .int .i64 r]

set_option maxRecDepth 100000 in
set_option maxHeartbeats 1000000 in
theorem failed_calls (c : Int) (w : World) :
    Calls Tryz.prog 57 #[.int .i64 c] w fun e w' => e = .returned (gV c 0 0 0 ⟨#[]⟩ 0) ∧ Below w.heap.size w w' := by
  go_enter Tryz.func57, Tryz.ntmps57; go_wp2
  exact bodyPost_ret (v := gV c 0 0 0 ⟨#[]⟩ 0) (by simp [results, Tryz.results57, go_sem]) rfl ⟨rfl, below_alloc _ _⟩

theorem meth_flag (b : Bool) (w : World) : (method 375 90 (.bool b) "loop.example/meaning/impl.value").run Tryz.prog w = .ok (265, .bool b) w := by kernel_rfl
set_option maxRecDepth 100000 in
set_option maxHeartbeats 1000000 in
theorem value_flagT  (w : World) :
    Calls Tryz.prog 265 #[.bool true] w fun e w' => e = .returned (vOf 1 1 0 ⟨#[]⟩ 0) ∧ Below w.heap.size w w' := by
  go_enter Tryz.func265, Tryz.ntmps265; go_wp2
  exact bodyPost_ret (v := vOf 1 1 0 ⟨#[]⟩ 0) (by simp [results, Tryz.results265, go_sem]) rfl ⟨rfl, below_alloc _ _⟩
set_option maxRecDepth 100000 in
set_option maxHeartbeats 1000000 in
theorem gives_flagT  (w : World) :
    Calls Tryz.prog 61 #[.iface 90 (.bool true)] w fun e w' => e = .returned (gV 0 1 1 0 ⟨#[]⟩ 0) ∧ Below w.heap.size w w' := by
  have hm := fun w => meth_flag true w
  go_enter Tryz.func61, Tryz.ntmps61
  go_wp2_with (go_at_call 265; refine (value_flagT  _).mono ?_; rintro e w1 ⟨rfl, hb1⟩; obtain ⟨hc1, hf1⟩ := bcell hb1)
  exact bodyPost_ret (v := gV 0 1 1 0 ⟨#[]⟩ 0) (by simp [results, Tryz.results61, go_sem, hc1]) rfl ⟨rfl, ((((((below_call (below_alloc _ _) hb1).setCell (Nat.le_refl _) _).setCell (Nat.le_refl _) _).setCell (Nat.le_refl _) _).setCell (Nat.le_refl _) _).setCell (Nat.le_refl _) _).setCell (Nat.le_refl _) _⟩

set_option maxRecDepth 100000 in
set_option maxHeartbeats 1000000 in
theorem value_flagF  (w : World) :
    Calls Tryz.prog 265 #[.bool false] w fun e w' => e = .returned (vOf 1 0 0 ⟨#[]⟩ 0) ∧ Below w.heap.size w w' := by
  go_enter Tryz.func265, Tryz.ntmps265; go_wp2
  exact bodyPost_ret (v := vOf 1 0 0 ⟨#[]⟩ 0) (by simp [results, Tryz.results265, go_sem]) rfl ⟨rfl, below_alloc _ _⟩
set_option maxRecDepth 100000 in
set_option maxHeartbeats 1000000 in
theorem gives_flagF  (w : World) :
    Calls Tryz.prog 61 #[.iface 90 (.bool false)] w fun e w' => e = .returned (gV 0 1 0 0 ⟨#[]⟩ 0) ∧ Below w.heap.size w w' := by
  have hm := fun w => meth_flag false w
  go_enter Tryz.func61, Tryz.ntmps61
  go_wp2_with (go_at_call 265; refine (value_flagF  _).mono ?_; rintro e w1 ⟨rfl, hb1⟩; obtain ⟨hc1, hf1⟩ := bcell hb1)
  exact bodyPost_ret (v := gV 0 1 0 0 ⟨#[]⟩ 0) (by simp [results, Tryz.results61, go_sem, hc1]) rfl ⟨rfl, ((((((below_call (below_alloc _ _) hb1).setCell (Nat.le_refl _) _).setCell (Nat.le_refl _) _).setCell (Nat.le_refl _) _).setCell (Nat.le_refl _) _).setCell (Nat.le_refl _) _).setCell (Nat.le_refl _) _⟩

theorem meth_whole (n : Int) (w : World) : (method 375 140 (.int .i64 n) "loop.example/meaning/impl.value").run Tryz.prog w = .ok (271, .int .i64 n) w := by kernel_rfl
set_option maxRecDepth 100000 in
set_option maxHeartbeats 1000000 in
theorem value_whole (n : Int) (w : World) :
    Calls Tryz.prog 271 #[.int .i64 n] w fun e w' => e = .returned (vOf 2 n 0 ⟨#[]⟩ 0) ∧ Below w.heap.size w w' := by
  go_enter Tryz.func271, Tryz.ntmps271; go_wp2
  exact bodyPost_ret (v := vOf 2 n 0 ⟨#[]⟩ 0) (by simp [results, Tryz.results271, go_sem]) rfl ⟨rfl, below_alloc _ _⟩
set_option maxRecDepth 100000 in
set_option maxHeartbeats 1000000 in
theorem gives_whole (n : Int) (w : World) :
    Calls Tryz.prog 61 #[.iface 140 (.int .i64 n)] w fun e w' => e = .returned (gV 0 2 n 0 ⟨#[]⟩ 0) ∧ Below w.heap.size w w' := by
  have hm := fun w => meth_whole n w
  go_enter Tryz.func61, Tryz.ntmps61
  go_wp2_with (go_at_call 271; refine (value_whole n _).mono ?_; rintro e w1 ⟨rfl, hb1⟩; obtain ⟨hc1, hf1⟩ := bcell hb1)
  exact bodyPost_ret (v := gV 0 2 n 0 ⟨#[]⟩ 0) (by simp [results, Tryz.results61, go_sem, hc1]) rfl ⟨rfl, ((((((below_call (below_alloc _ _) hb1).setCell (Nat.le_refl _) _).setCell (Nat.le_refl _) _).setCell (Nat.le_refl _) _).setCell (Nat.le_refl _) _).setCell (Nat.le_refl _) _).setCell (Nat.le_refl _) _⟩

theorem meth_float (f : Nat) (w : World) : (method 375 141 (.float .f64 f) "loop.example/meaning/impl.value").run Tryz.prog w = .ok (285, .float .f64 f) w := by kernel_rfl
set_option maxRecDepth 100000 in
set_option maxHeartbeats 1000000 in
theorem value_float (f : Nat) (w : World) :
    Calls Tryz.prog 285 #[.float .f64 f] w fun e w' => e = .returned (vOf 3 0 f ⟨#[]⟩ 0) ∧ Below w.heap.size w w' := by
  go_enter Tryz.func285, Tryz.ntmps285; go_wp2
  exact bodyPost_ret (v := vOf 3 0 f ⟨#[]⟩ 0) (by simp [results, Tryz.results285, go_sem]) rfl ⟨rfl, below_alloc _ _⟩
set_option maxRecDepth 100000 in
set_option maxHeartbeats 1000000 in
theorem gives_float (f : Nat) (w : World) :
    Calls Tryz.prog 61 #[.iface 141 (.float .f64 f)] w fun e w' => e = .returned (gV 0 3 0 f ⟨#[]⟩ 0) ∧ Below w.heap.size w w' := by
  have hm := fun w => meth_float f w
  go_enter Tryz.func61, Tryz.ntmps61
  go_wp2_with (go_at_call 285; refine (value_float f _).mono ?_; rintro e w1 ⟨rfl, hb1⟩; obtain ⟨hc1, hf1⟩ := bcell hb1)
  exact bodyPost_ret (v := gV 0 3 0 f ⟨#[]⟩ 0) (by simp [results, Tryz.results61, go_sem, hc1]) rfl ⟨rfl, ((((((below_call (below_alloc _ _) hb1).setCell (Nat.le_refl _) _).setCell (Nat.le_refl _) _).setCell (Nat.le_refl _) _).setCell (Nat.le_refl _) _).setCell (Nat.le_refl _) _).setCell (Nat.le_refl _) _⟩

theorem meth_word (s : ByteArray) (w : World) : (method 375 142 (.string s) "loop.example/meaning/impl.value").run Tryz.prog w = .ok (295, .string s) w := by kernel_rfl
set_option maxRecDepth 100000 in
set_option maxHeartbeats 1000000 in
theorem value_word (s : ByteArray) (w : World) :
    Calls Tryz.prog 295 #[.string s] w fun e w' => e = .returned (vOf 4 0 0 s 0) ∧ Below w.heap.size w w' := by
  go_enter Tryz.func295, Tryz.ntmps295; go_wp2
  exact bodyPost_ret (v := vOf 4 0 0 s 0) (by simp [results, Tryz.results295, go_sem]) rfl ⟨rfl, below_alloc _ _⟩
set_option maxRecDepth 100000 in
set_option maxHeartbeats 1000000 in
theorem gives_word (s : ByteArray) (w : World) :
    Calls Tryz.prog 61 #[.iface 142 (.string s)] w fun e w' => e = .returned (gV 0 4 0 0 s 0) ∧ Below w.heap.size w w' := by
  have hm := fun w => meth_word s w
  go_enter Tryz.func61, Tryz.ntmps61
  go_wp2_with (go_at_call 295; refine (value_word s _).mono ?_; rintro e w1 ⟨rfl, hb1⟩; obtain ⟨hc1, hf1⟩ := bcell hb1)
  exact bodyPost_ret (v := gV 0 4 0 0 s 0) (by simp [results, Tryz.results61, go_sem, hc1]) rfl ⟨rfl, ((((((below_call (below_alloc _ _) hb1).setCell (Nat.le_refl _) _).setCell (Nat.le_refl _) _).setCell (Nat.le_refl _) _).setCell (Nat.le_refl _) _).setCell (Nat.le_refl _) _).setCell (Nat.le_refl _) _⟩

end Go.Proofs.YtiidepafifodjabGreat
