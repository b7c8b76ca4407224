import Derived.Test.YtiidepafifodjabGreatCompare
/-! Compare as the order of whole numbers, plain. -/
namespace Go.Proofs.YtiidepafifodjabGreat
open Go.RowKit

/-- infinities outside -/
def cmpE (a b : Int × Int) : Int := if a.1 < b.1 then -1 else if b.1 < a.1 then 1 else cmpI a.2 b.2
theorem cmpE_turn (a b : Int × Int) : cmpE b a = -(cmpE a b) := by
  unfold cmpE cmpI
  (repeat' split) <;> omega
theorem cmpE_rng (a b : Int × Int) : cmpE a b = -1 ∨ cmpE a b = 0 ∨ cmpE a b = 1 := by
  unfold cmpE cmpI
  (repeat' split) <;> simp
theorem cmpE_lt {a b c : Int × Int} (h : cmpE a b = -1) (k : cmpE b c = -1) : cmpE a c = -1 := by
  unfold cmpE cmpI at *
  (repeat' split at h) <;> (repeat' split at k) <;> (repeat' split) <;> omega
theorem cmpE_eq {a b c : Int × Int} (h : cmpE a b = 0) : cmpE a c = cmpE b c := by
  unfold cmpE cmpI at *
  (repeat' split at h) <;> (repeat' split) <;> omega

/-- where a float stands -/
def RkF (f : Nat) (v : Option (Int × Int)) : Prop := (∃ s M, Fl.Fin3 f s M ∧ Fl.rep M ∧ v = some (0, Fl.sv s M)) ∨ (∃ s, Ieee.double.read f = .infinity s ∧ v = some (if s then -1 else 1, 0)) ∨ ((∃ s t, Ieee.double.read f = .nan s t) ∧ v = none)
theorem RkF.ex {f : Nat} (hf : f < 2 ^ 64) : ∃ v, RkF f v := by
  rcases Fl.sort3 hf with ⟨s, M, hx, hr, _⟩ | ⟨s, h, _⟩ | ⟨s, t, h⟩
  · exact ⟨_, .inl ⟨s, M, hx, hr, rfl⟩⟩
  · exact ⟨_, .inr (.inl ⟨s, h, rfl⟩)⟩
  · exact ⟨_, .inr (.inr ⟨⟨s, t, h⟩, rfl⟩)⟩
theorem RkF.nan {f : Nat} {v : Option (Int × Int)} (h : RkF f v) : nanB f = v.isNone := by
  unfold nanB
  show (Ieee.double.order f f != some .eq) = _
  rcases h with ⟨s, M, hx, _, rfl⟩ | ⟨s, h, rfl⟩ | ⟨⟨s, t, h⟩, rfl⟩
  · rw [Fl.order_fin hx hx]; simp
  · unfold Ieee.Format.order; rw [h]; cases s <;> rfl
  · unfold Ieee.Format.order; rw [h]; rfl
def ordI (c : Int) : Ordering := if c = -1 then .lt else if c = 0 then .eq else .gt
theorem ordI_cmp (a b : Int) : compare a b = ordI (cmpI a b) := by
  rcases Int.lt_trichotomy a b with h | h | h
  · have e : cmpI a b = -1 := by unfold cmpI; rw [if_pos h]
    rw [e, Int.compare_eq_lt.2 h]; rfl
  · have e : cmpI a b = 0 := by unfold cmpI; rw [if_neg (by omega), if_neg (by omega)]
    rw [e, Int.compare_eq_eq.2 h]; rfl
  · have e : cmpI a b = 1 := by unfold cmpI; rw [if_neg (by omega), if_pos h]
    rw [e, Int.compare_eq_gt.2 h]; rfl
theorem RkF.order {f g : Nat} {a b : Int × Int} (hf : RkF f (some a)) (hg : RkF g (some b)) : FloatKind.f64.format.order f g = some (ordI (cmpE a b)) := by
  show Ieee.double.order f g = _
  rcases hf with ⟨s, M, hx, _, e⟩ | ⟨s, h, e⟩ | ⟨_, e⟩
  · cases e
    rcases hg with ⟨t, N, hy, _, e⟩ | ⟨t, k, e⟩ | ⟨_, e⟩
    · cases e
      rw [Fl.order_fin hx hy, ordI_cmp]
      unfold cmpE
      simp
    · cases e
      obtain ⟨m, i, h, _, _⟩ := hx
      unfold Ieee.Format.order
      rw [h, k]
      cases t <;> rfl
    · cases e
  · cases e
    rcases hg with ⟨t, N, hy, _, e⟩ | ⟨t, k, e⟩ | ⟨_, e⟩
    · cases e
      obtain ⟨m, i, k, _, _⟩ := hy
      unfold Ieee.Format.order
      rw [h, k]
      cases s <;> rfl
    · cases e
      unfold Ieee.Format.order
      rw [h, k]
      cases s <;> cases t <;> rfl
    · cases e
  · cases e
theorem cmpF_rk {f g : Nat} {a b : Int × Int} (hf : RkF f (some a)) (hg : RkF g (some b)) : cmpF f g = cmpE a b := by
  unfold cmpF
  rw [hf.order hg]
  rcases cmpE_rng a b with h | h | h <;> rw [h] <;> simp [ordI]

/-- a float's floor among the whole numbers -/
theorem floor_parts {x : Nat} {s : Bool} {M : Nat} (hx : Fl.Fin3 x s M) (hr : Fl.rep M) (h1 : -((2 ^ 63 * 2 ^ 1074 : Nat) : Int) ≤ Fl.sv s M) (h2 : Fl.sv s M < ((2 ^ 63 * 2 ^ 1074 : Nat) : Int)) :
    ∃ v : Int, flI x = v ∧ v * ((2 ^ 1074 : Nat) : Int) ≤ Fl.sv s M ∧ Fl.sv s M < (v + 1) * ((2 ^ 1074 : Nat) : Int) ∧ ∃ t N, Fl.Fin3 (Fl.floorW x) t N ∧ Fl.rep N ∧ Fl.sv t N = v * ((2 ^ 1074 : Nat) : Int) := by
  have hdm := Fl.div_mod M (2 ^ 1074)
  have hsm := Fl.whole_small hr
  have hrt := Fl.rep_trunc hr
  have hlt : M % 2 ^ 1074 < 2 ^ 1074 := Nat.mod_lt _ Fl.K_pos
  have hQ : ∃ Q, Fl.rep (Q * 2 ^ 1074) ∧ Fl.floorW x = Fl.enc s (Q * 2 ^ 1074) ∧ -9223372036854775808 ≤ Fl.sv s Q ∧ Fl.sv s Q ≤ 9223372036854775807 ∧ Fl.sv s Q * ((2 ^ 1074 : Nat) : Int) ≤ Fl.sv s M ∧ Fl.sv s M < (Fl.sv s Q + 1) * ((2 ^ 1074 : Nat) : Int) := by
    rw [Fl.floorW_fin hx]
    refine ⟨_, ?_, rfl, ?_⟩
    · by_cases hm : (s && M % 2 ^ 1074 != 0) = true
      · rw [hm]
        have := hsm (by rw [Bool.and_eq_true] at hm; exact bne_iff_ne.1 hm.2)
        refine Fl.rep_int ?_
        generalize M / 2 ^ 1074 = q at *
        simp; omega
      · rw [Bool.not_eq_true] at hm
        rw [hm]
        exact hrt
    · have hK := Fl.K_pos
      clear hx hr hrt
      generalize 2 ^ 1074 = K at *
      generalize hq : M / K = q at *
      generalize hm : M % K = m at *
      have e3 : ∀ z : Int, (z + 1) * (K : Int) = z * (K : Int) + K := fun z => by rw [Int.add_mul, Int.one_mul]
      rw [e3]
      cases s
      · have e2 : (q + (false && m != 0).toNat) = q := by simp
        rw [e2]
        simp only [Fl.sv, Bool.false_eq_true, if_false] at h2 ⊢
        have h3 : q * K < 2 ^ 63 * K := by omega
        have h3 := Nat.lt_of_mul_lt_mul_right h3
        have e4 : ((q : Int) * (K : Int)) = ((q * K : Nat) : Int) := by simp
        rw [e4]
        generalize q * K = Z at *
        omega
      · by_cases hm0 : m = 0
        · have e2 : (q + (true && m != 0).toNat) = q := by simp [hm0]
          rw [e2]
          simp only [Fl.sv, if_true] at h1 ⊢
          have h3 : q * K ≤ 2 ^ 63 * K := by omega
          have h3 := Nat.le_of_mul_le_mul_right h3 hK
          have e4 : (-(q : Int)) * (K : Int) = -((q * K : Nat) : Int) := by simp [Int.neg_mul]
          rw [e4]
          generalize q * K = Z at *
          omega
        · have h3 := hsm hm0
          have e2 : (q + (true && m != 0).toNat) = q + 1 := by simp [hm0]
          rw [e2]
          simp only [Fl.sv, if_true]
          have e4 : (-((q + 1 : Nat) : Int)) * (K : Int) = -((q * K : Nat) : Int) - K := by
            rw [Int.neg_mul]
            have : ((q + 1 : Nat) : Int) * (K : Int) = ((q * K : Nat) : Int) + K := by simp [Int.add_mul]
            omega
          rw [e4]
          generalize q * K = Z at *
          omega
  obtain ⟨Q, hrQ, hQ, l1, l2, l3, l4⟩ := hQ
  have e : Q * 2 ^ 1074 / 2 ^ 1074 = Q := Nat.mul_div_cancel _ Fl.K_pos
  have ht := Fl.toInt_gen (Fl.read_enc s hrQ) (by rw [e]; exact l1) (by rw [e]; exact l2)
  rw [e] at ht
  refine ⟨Fl.sv s Q, ?_, l3, l4, s, Q * 2 ^ 1074, by rw [hQ]; exact Fl.read_enc s hrQ, hrQ, ?_⟩
  · unfold flI
    rw [hQ, ht]
    rfl
  · generalize 2 ^ 1074 = K
    unfold Fl.sv
    cases s
    · simp
    · simp [Int.neg_mul]

theorem cmp_mul {K : Int} (hK : 0 < K) (a b : Int) : cmpI (a * K) (b * K) = cmpI a b := by
  unfold cmpI
  rcases Int.lt_trichotomy a b with h | h | h
  · rw [if_pos h, if_pos (Int.mul_lt_mul_of_pos_right h hK)]
  · subst h; simp
  · rw [if_neg (show ¬ a < b by omega), if_pos h, if_neg (by have := Int.mul_lt_mul_of_pos_right h hK; omega), if_pos (Int.mul_lt_mul_of_pos_right h hK)]

theorem cast63 (K : Nat) : ((2 ^ 63 * K : Nat) : Int) = 9223372036854775808 * (K : Int) := by rw [Int.natCast_mul]; rfl
theorem bnds {n : Int} (hn1 : -9223372036854775808 ≤ n) (hn2 : n ≤ 9223372036854775807) {K : Nat} (hK : 0 < K) : n * (K : Int) < ((2 ^ 63 * K : Nat) : Int) ∧ -((2 ^ 63 * K : Nat) : Int) ≤ n * (K : Int) := by
  rw [cast63, ← Int.neg_mul]
  exact ⟨Int.mul_lt_mul_of_pos_right (by omega) (Int.natCast_pos.2 hK), Int.mul_le_mul_of_nonneg_right hn1 (Int.natCast_nonneg K)⟩
theorem rep_pows (a b : Nat) (h : a + b ≤ 2045) : Fl.rep (2 ^ a * 2 ^ b) := ⟨1, a + b, by decide, h, by rw [Nat.one_mul, Nat.pow_add]⟩
theorem cmpIF_rk {n : Int} {f : Nat} {b : Int × Int} (hn1 : -9223372036854775808 ≤ n) (hn2 : n ≤ 9223372036854775807) (hf : RkF f (some b)) : cmpIF n f = cmpE (0, n * ((2 ^ 1074 : Nat) : Int)) b := by
  have r1 : RkF two63 (some (0, ((2 ^ 63 * 2 ^ 1074 : Nat) : Int))) := by
    refine .inl ⟨false, _, Fl.fin_two63, rep_pows 63 1074 (by omega), rfl⟩
  have r2 : RkF ntwo63 (some (0, -((2 ^ 63 * 2 ^ 1074 : Nat) : Int))) := by
    refine .inl ⟨true, _, Fl.fin_ntwo63, rep_pows 63 1074 (by omega), rfl⟩
  unfold cmpIF
  rw [hf.order r1, hf.order r2]
  have hf' := hf
  rcases hf with ⟨s, M, hx, hr, e⟩ | ⟨s, h, e⟩ | ⟨_, e⟩
  · cases e
    have hK := Fl.K_pos
    have fp := floor_parts hx hr
    have e1 : ∀ a c : Int, cmpE (0, a) (0, c) = cmpI a c := fun a c => by simp [cmpE]
    rw [e1, e1, e1]
    have hK' : (0 : Int) < ((2 ^ 1074 : Nat) : Int) := Int.natCast_pos.2 hK
    obtain ⟨b1, b2⟩ := bnds hn1 hn2 hK
    have ho : ∀ t N, Fl.Fin3 (Fl.floorW f) t N → Fl.rep N → FloatKind.f64.format.order f (Fl.floorW f) = some (ordI (cmpI (Fl.sv s M) (Fl.sv t N))) := fun t N h1 h2 => by
      rw [hf'.order (.inl ⟨t, N, h1, h2, rfl⟩), e1]
    clear hx hr hf' r1 r2 hK
    generalize ((2 ^ 63 * 2 ^ 1074 : Nat) : Int) = E at *
    generalize ((2 ^ 1074 : Nat) : Int) = K at *
    generalize Fl.sv s M = m at *
    by_cases c1 : m < E
    · have o1 : ordI (cmpI m E) = .lt := by unfold cmpI; rw [if_pos c1]; rfl
      rw [o1, if_neg (by simp)]
      by_cases c2 : m < -E
      · have o2 : ordI (cmpI m (-E)) = .lt := by unfold cmpI; rw [if_pos c2]; rfl
        rw [o2, if_pos rfl]
        unfold cmpI
        rw [if_neg (by omega), if_pos (by omega)]
      · have o2 : ordI (cmpI m (-E)) ≠ .lt := by
          unfold cmpI; rw [if_neg c2]; split <;> decide
        rw [if_neg (by simpa using o2)]
        obtain ⟨v, hv, f1, f2, t, N, g1, g2, g3⟩ := fp (by omega) c1
        rw [ho t N g1 g2, g3, hv]
        have e3 : (v + 1) * K = v * K + K := by rw [Int.add_mul, Int.one_mul]
        rw [e3] at f2
        rcases Int.lt_trichotomy n v with c | c | c
        · rw [if_pos c]
          have : n * K < v * K := Int.mul_lt_mul_of_pos_right c hK'
          unfold cmpI
          rw [if_pos (by omega)]
        · subst c
          rw [if_neg (by omega), if_neg (by omega)]
          by_cases c3 : n * K < m
          · have e4 : cmpI m (n * K) = 1 := by unfold cmpI; rw [if_neg (by omega), if_pos c3]
            have e5 : cmpI (n * K) m = -1 := by unfold cmpI; rw [if_pos c3]
            rw [e4, e5]; rfl
          · have e4 : cmpI m (n * K) = 0 := by unfold cmpI; rw [if_neg (by omega), if_neg c3]
            have e5 : cmpI (n * K) m = 0 := by unfold cmpI; rw [if_neg c3, if_neg (by omega)]
            rw [e4, e5]; rfl
        · rw [if_neg (by omega), if_pos c]
          have h4 : (v + 1) * K ≤ n * K := Int.mul_le_mul_of_nonneg_right (by omega) (Int.le_of_lt hK')
          rw [e3] at h4
          unfold cmpI
          rw [if_neg (by omega), if_pos (by omega)]
    · have o1 : ordI (cmpI m E) ≠ .lt := by
        unfold cmpI; rw [if_neg c1]; split <;> decide
      rw [if_pos (by simpa using o1)]
      unfold cmpI
      rw [if_pos (by omega)]
  · cases e
    generalize ((2 ^ 63 * 2 ^ 1074 : Nat) : Int) = E at *
    generalize ((2 ^ 1074 : Nat) : Int) = K at *
    cases s
    · simp [cmpE, ordI]
    · simp [cmpE, ordI]
  · cases e
end Go.Proofs.YtiidepafifodjabGreat
