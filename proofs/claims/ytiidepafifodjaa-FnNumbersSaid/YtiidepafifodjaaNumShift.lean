import Derived.Test.YtiidepafifodjaaNumFacts
import Derived.Test.YtiidepafifodjaaHas
/-! Shifts there and back; stores into a fresh local. -/
namespace Go.Proofs.Ytiidepafifodjaa
open Go.RowKit

theorem u64_wrap (x : Int) : IntKind.u64.wrap x = x % 18446744073709551616 := by
  simp [IntKind.wrap, IntKind.bits, IntKind.signed]

theorem and_mask (x : Int) (n : Nat) (hn : n ≤ 64) (h0 : 0 ≤ x) (h1 : x < 18446744073709551616) : bits .and .u64 x (18446744073709551615 / 2 ^ (64 - n)) = x % 2 ^ n := by
  have e1 : (18446744073709551615 : Int) / 2 ^ (64 - n) = ((2 ^ n - 1 : Nat) : Int) := by
    have hp : (2 : Int) ^ 64 = 2 ^ n * 2 ^ (64 - n) := by rw [← Int.pow_add]; congr 1; omega
    have hq : (0 : Int) < 2 ^ (64 - n) := Int.pow_pos (by omega)
    have hr : (0 : Int) < 2 ^ n := Int.pow_pos (by omega)
    have hc : ((2 ^ n - 1 : Nat) : Int) = 2 ^ n - 1 := by
      have := Nat.two_pow_pos n
      rw [Int.natCast_sub (by omega)]; simp
    rw [hc]
    have e : (18446744073709551615 : Int) = (2 ^ n - 1) * 2 ^ (64 - n) + (2 ^ (64 - n) - 1) := by
      rw [Int.sub_mul, ← hp]; omega
    rw [e, Int.mul_add_ediv_right _ _ (by omega), Int.ediv_eq_zero_of_lt (by omega) (by omega)]
    omega
  rw [e1]
  obtain ⟨m, rfl⟩ := Int.eq_ofNat_of_zero_le h0
  have hb : bits .and .u64 (m : Int) ((2 ^ n - 1 : Nat) : Int) = IntKind.u64.wrap (((BitVec.ofInt 64 (m : Int)) &&& (BitVec.ofInt 64 ((2 ^ n - 1 : Nat) : Int))).toNat : Int) := rfl
  rw [hb, u64_wrap]
  have hm : (2 ^ n - 1 : Nat) < 2 ^ 64 := by
    have := Nat.pow_le_pow_right (show 0 < 2 by omega) hn
    have := Nat.two_pow_pos n
    omega
  have t1 : (BitVec.ofInt 64 (m : Int)).toNat = m := by simp; omega
  have t2 : (BitVec.ofInt 64 ((2 ^ n - 1 : Nat) : Int)).toNat = 2 ^ n - 1 := by
    rw [BitVec.toNat_ofInt]; omega
  rw [BitVec.toNat_and, t1, t2, Nat.and_two_pow_sub_one_eq_mod]
  have hlt : m % 2 ^ n ≤ m := Nat.mod_le _ _
  rw [Int.emod_eq_of_lt (by omega) (by omega)]
  simp

theorem shift_back (a K L BK : Int) (h0 : 0 ≤ K) (h1 : K < 64) (hL : wrap64 (a * 2 ^ min K.toNat 64) = L) (hB : wrap64 (IntKind.u64.wrap L / 2 ^ min K.toNat 64) = BK) :
    IntKind.u64.wrap BK = bits .and .u64 (IntKind.u64.wrap a) (18446744073709551615 / 2 ^ K.toNat) := by
  obtain ⟨k, rfl⟩ := Int.eq_ofNat_of_zero_le h0
  rw [Int.toNat_natCast] at *
  have hk : k < 64 := by omega
  rw [Nat.min_eq_left (by omega)] at hL hB
  have ha := and_mask (IntKind.u64.wrap a) (64 - k) (by omega) (by rw [u64_wrap]; omega) (by rw [u64_wrap]; omega)
  rw [show 64 - (64 - k) = k by omega] at ha
  rw [ha]
  have hp : (18446744073709551616 : Int) = 2 ^ k * 2 ^ (64 - k) := by rw [← Int.pow_add, show k + (64 - k) = 64 by omega]; rfl
  have hq : (0 : Int) < 2 ^ k := Int.pow_pos (by omega)
  have hr : (0 : Int) < 2 ^ (64 - k) := Int.pow_pos (by omega)
  have hle : (2 : Int) ^ (64 - k) ≤ 18446744073709551616 := by
    rw [hp]
    have := Int.mul_le_mul_of_nonneg_right (show (1 : Int) ≤ 2 ^ k by omega) (Int.le_of_lt hr)
    omega
  obtain ⟨j, hj⟩ := wrap_ex (a * 2 ^ k)
  have e1 : IntKind.u64.wrap L = (a % 2 ^ (64 - k)) * 2 ^ k := by
    rw [u64_wrap, ← hL, hj, Int.add_mul_emod_self_left]
    rw [hp, Int.mul_comm a (2 ^ k), Int.mul_emod_mul_of_pos _ _ hq, Int.mul_comm]
  have e2 : IntKind.u64.wrap L / 2 ^ k = a % 2 ^ (64 - k) := by rw [e1, Int.mul_ediv_cancel _ (by omega)]
  have e3 : IntKind.u64.wrap a % 2 ^ (64 - k) = a % 2 ^ (64 - k) := by
    rw [u64_wrap, Int.emod_emod_of_dvd]
    exact ⟨2 ^ k, by rw [hp, Int.mul_comm]⟩
  rw [e3, ← hB, e2]
  have b0 := Int.emod_nonneg a (show (2 : Int) ^ (64 - k) ≠ 0 by omega)
  have b1 := Int.emod_lt_of_pos a hr
  generalize a % 2 ^ (64 - k) = y at *
  rw [u64_wrap]
  obtain ⟨j2, hj2⟩ := wrap_ex y
  rw [hj2, Int.add_mul_emod_self_left, Int.emod_eq_of_lt b0 (by omega)]

theorem shift_far (a K L BK : Int) (h1 : 64 ≤ K) (hL : wrap64 (a * 2 ^ min K.toNat 64) = L) (hB : wrap64 (IntKind.u64.wrap L / 2 ^ min K.toNat 64) = BK) : BK = 0 := by
  rw [Nat.min_eq_right (by omega)] at hL hB
  have e : L = 0 := by rw [← hL]; unfold wrap64; omega
  rw [← hB, e, u64_wrap]
  simp [wrap64]

theorem Has.set5 {w : World} {B : Nat} {A : Array Value} (h : Has w B A) (hA : A.size = 5) (v0 v1 v2 v3 v4 : Value) :
    Has (((((w.setCell ⟨B, 0, none⟩ v0).setCell ⟨B, 1, none⟩ v1).setCell ⟨B, 2, none⟩ v2).setCell ⟨B, 3, none⟩ v3).setCell ⟨B, 4, none⟩ v4) B #[v0, v1, v2, v3, v4] := by
  have hs : ∀ i, i < 5 → (w.cell? ⟨B, i, none⟩).isSome = true := fun i hi => by rw [h.2 i, Array.getElem?_eq_getElem (by omega)]; rfl
  have h0 := hs 0 (by omega)
  have h1 := hs 1 (by omega)
  have h2 := hs 2 (by omega)
  have h3 := hs 3 (by omega)
  have h4 := hs 4 (by omega)
  refine ⟨by have := h.1; simpa using this, fun o => ?_⟩
  rcases o with _ | _ | _ | _ | _ | o
  · simp [go_sem, h0]
  · simp [go_sem, h1]
  · simp [go_sem, h2]
  · simp [go_sem, h3]
  · simp [go_sem, h4]
  · have := h.2 (o + 5)
    rw [Array.getElem?_eq_none (by omega)] at this
    simp [go_sem, this]
theorem Has.set5_other {w : World} {B C : Nat} {A : Array Value} (h : Has w C A) (hne : B ≠ C) (v0 v1 v2 v3 v4 : Value) :
    Has (((((w.setCell ⟨B, 0, none⟩ v0).setCell ⟨B, 1, none⟩ v1).setCell ⟨B, 2, none⟩ v2).setCell ⟨B, 3, none⟩ v3).setCell ⟨B, 4, none⟩ v4) C A := by
  refine ⟨by have := h.1; simpa using this, fun o => ?_⟩
  have := h.2 o
  simp [go_sem, this]
theorem Has.ne {w : World} {B C : Nat} {A A' : Array Value} (h : Has w B A) (h' : Has w C A') (hd : A[0]? ≠ A'[0]?) : B ≠ C := by
  intro e
  subst e
  exact hd ((h.2 0).symm.trans (h'.2 0))
end Go.Proofs.Ytiidepafifodjaa
