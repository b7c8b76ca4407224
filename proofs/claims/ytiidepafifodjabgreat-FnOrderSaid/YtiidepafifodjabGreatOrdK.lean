import Derived.Test.YtiidepafifodjabGreatOrdN
/-! Key and Same at valid values, plain. -/
namespace Go.Proofs.YtiidepafifodjabGreat
open Go.RowKit

theorem rk_two63 : RkF two63 (some (0, ((2 ^ 63 * 2 ^ 1074 : Nat) : Int))) := .inl ⟨false, _, Fl.fin_two63, rep_pows 63 1074 (by omega), rfl⟩
theorem rk_ntwo63 : RkF ntwo63 (some (0, -((2 ^ 63 * 2 ^ 1074 : Nat) : Int))) := .inl ⟨true, _, Fl.fin_ntwo63, rep_pows 63 1074 (by omega), rfl⟩
theorem ordI_lt {a b : Int × Int} (h : ordI (cmpE a b) = .lt) : cmpE a b = -1 := by
  rcases cmpE_rng a b with c | c | c
  · exact c
  · rw [c] at h; exact absurd h (by decide)
  · rw [c] at h; exact absurd h (by decide)
theorem ordI_eq {a b : Int × Int} (h : ordI (cmpE a b) = .eq) : cmpE a b = 0 := by
  rcases cmpE_rng a b with c | c | c
  · rw [c] at h; exact absurd h (by decide)
  · exact c
  · rw [c] at h; exact absurd h (by decide)
theorem sv_mul {K : Nat} (hK : 0 < K) {s : Bool} {M : Nat} {v : Int} (h : Fl.sv s M = v * (K : Int)) : Fl.sv s (M / K) = v := by
  have hM : M = v.natAbs * K := by
    have := congrArg Int.natAbs h
    rw [Fl.sv_natAbs, Int.natAbs_mul, Int.natAbs_natCast] at this
    exact this
  rw [hM, Nat.mul_div_cancel _ hK]
  have hK' : (0 : Int) < (K : Int) := Int.natCast_pos.2 hK
  unfold Fl.sv at *
  cases s
  · simp only [Bool.false_eq_true, if_false] at *
    have : 0 ≤ v := by
      refine Int.not_lt.1 fun c => ?_
      have := Int.mul_neg_of_neg_of_pos c hK'
      omega
    omega
  · simp only [if_true] at *
    have : v ≤ 0 := by
      refine Int.not_lt.1 fun c => ?_
      have := Int.mul_pos c hK'
      omega
    omega
theorem mul_rng {K : Nat} (hK : 0 < K) {v : Int} (h1 : -((2 ^ 63 * K : Nat) : Int) ≤ v * (K : Int)) (h2 : v * (K : Int) < ((2 ^ 63 * K : Nat) : Int)) : -9223372036854775808 ≤ v ∧ v ≤ 9223372036854775807 := by
  rw [cast63, ← Int.neg_mul] at h1
  rw [cast63] at h2
  have hK' : (0 : Int) < (K : Int) := Int.natCast_pos.2 hK
  have a1 := Int.le_of_mul_le_mul_right h1 hK'
  have a2 := Int.lt_of_mul_lt_mul_right h2 (Int.le_of_lt hK')
  omega

/-- a whole float's int stands where the float stands -/
theorem whole_rk {f : Nat} {a : Option (Int × Int)} (hf : RkF f a) (hw : whB f = true) : ∃ v : Int, floatToIntVal .f64 f .i64 = some v ∧ a = some (0, v * ((2 ^ 1074 : Nat) : Int)) ∧ -9223372036854775808 ≤ v ∧ v ≤ 9223372036854775807 := by
  unfold whB at hw
  simp only [Bool.and_eq_true, Bool.or_eq_true, beq_iff_eq] at hw
  obtain ⟨⟨w1, w2⟩, w3⟩ := hw
  have hf' := hf
  rcases hf with ⟨s, M, hx, hr, rfl⟩ | ⟨s, h, rfl⟩ | ⟨⟨s, t, h⟩, rfl⟩
  · rw [hf'.order rk_ntwo63] at w1
    rw [hf'.order rk_two63] at w2
    have e1 : ∀ a c : Int, cmpE (0, a) (0, c) = cmpI a c := fun a c => by simp [cmpE]
    have c2 := ordI_lt (Option.some.inj w2)
    rw [e1] at c2 w1
    have d2 : Fl.sv s M < ((2 ^ 63 * 2 ^ 1074 : Nat) : Int) := by
      generalize ((2 ^ 63 * 2 ^ 1074 : Nat) : Int) = E at *
      unfold cmpI at c2
      split at c2
      · assumption
      · split at c2 <;> omega
    have d1 : -((2 ^ 63 * 2 ^ 1074 : Nat) : Int) ≤ Fl.sv s M := by
      generalize ((2 ^ 63 * 2 ^ 1074 : Nat) : Int) = E at *
      refine Int.not_lt.1 fun c => ?_
      have : cmpI (Fl.sv s M) (-E) = -1 := by unfold cmpI; rw [if_pos c]
      rw [this] at w1
      rcases w1 with w1 | w1 <;> exact absurd w1 (by decide)
    obtain ⟨v, hv, f1, f2, t, N, g1, g2, g3⟩ := floor_parts hx hr d1 d2
    rw [hf'.order (.inl ⟨t, N, g1, g2, rfl⟩)] at w3
    have c3 := ordI_eq (Option.some.inj w3)
    rw [e1, g3] at c3
    have hm : Fl.sv s M = v * ((2 ^ 1074 : Nat) : Int) := by
      generalize ((2 ^ 1074 : Nat) : Int) = K at *
      unfold cmpI at c3
      split at c3
      · omega
      · split at c3 <;> omega
    have hs := sv_mul Fl.K_pos hm
    have hg := mul_rng Fl.K_pos (by rw [← hm]; exact d1) (by rw [← hm]; exact d2)
    refine ⟨v, ?_, by rw [hm], hg⟩
    rw [← hs]
    exact Fl.toInt_gen hx (by rw [hs]; exact hg.1) (by rw [hs]; exact hg.2)
  · exfalso
    rw [hf'.order rk_ntwo63] at w1
    rw [hf'.order rk_two63] at w2
    generalize ((2 ^ 63 * 2 ^ 1074 : Nat) : Int) = E at *
    cases s
    · simp [cmpE, ordI] at w2
    · simp [cmpE, ordI] at w1
  · exfalso
    have : Ieee.double.order f two63 = none := by unfold Ieee.Format.order; rw [h]; rfl
    have w2' : Ieee.double.order f two63 = some .lt := w2
    rw [this] at w2'
    cases w2'

theorem kc_num {x : VD} (hx : x.ok = true) {a : Option (Int × Int)} (ha : Rk x a) : kc x = if a.isNone then 5 else 0 := by
  unfold kc
  rw [hx]
  rcases ha with ⟨h, e⟩ | ⟨h, e⟩
  · obtain ⟨b, hb⟩ : ∃ b, a = some b := ⟨_, e⟩
    rw [h, hb]; simp
  · rw [h]
    have hn := e.nan
    unfold nanB at hn
    cases a with
    | none =>
      have : FloatKind.f64.format.order x.f x.f ≠ some .eq := by simpa using hn
      simp [this]
    | some a =>
      have : FloatKind.f64.format.order x.f x.f = some .eq := by simpa using hn
      simp [this]
/-- a key stands where its value stands -/
theorem kv_rk {x : VD} (hx : x.ok = true) (wx : VW x) {a : Int × Int} (ha : Rk x (some a)) : Rk (kv x) (some a) ∧ VW (kv x) := by
  rcases ha with ⟨h, e⟩ | ⟨h, e⟩
  · have : kv x = x := by unfold kv; rw [hx, h]; simp
    rw [this]
    exact ⟨.inl ⟨h, e⟩, wx⟩
  · have hn := e.nan
    unfold nanB at hn
    have ho : FloatKind.f64.format.order x.f x.f = some .eq := by simpa using hn
    have z : VW ⟨3, 0, x.f, ⟨#[]⟩, 0⟩ := ⟨by show (-9223372036854775808 : Int) ≤ 0; omega, by show (0 : Int) ≤ 9223372036854775807; omega, wx.f, Nat.zero_le _⟩
    cases hw : whB x.f
    · have : kv x = ⟨3, 0, x.f, ⟨#[]⟩, 0⟩ := by unfold kv; rw [hx, h]; simp [ho, hw]
      rw [this]
      exact ⟨.inr ⟨rfl, e⟩, z⟩
    · obtain ⟨v, hv, he, h1, h2⟩ := whole_rk e hw
      have : kv x = ⟨2, v, 0, ⟨#[]⟩, 0⟩ := by unfold kv; rw [hx, h]; simp [ho, hw, hv]
      rw [this]
      exact ⟨.inl ⟨rfl, he⟩, ⟨h1, h2, by show 0 < 2 ^ 64; decide, Nat.zero_le _⟩⟩
theorem kv_ok {x : VD} (hc : kc x = 0) : (kv x).ok = true := (kOk_parts (kokKv hc)).1
theorem kv_else {x : VD} (hx : x.ok = true) (hn : ¬ IsNum x) : kc x = (if x.k = 0 then 5 else 0) ∧ (x.k ≠ 0 → kv x = x) := by
  have h3 : x.k ≠ 3 := fun h => hn (.inr h)
  unfold kc kv
  rw [hx]
  constructor
  · simp [h3]
  · intro h0; simp [h0, h3]

theorem same_num {x y : VD} (hx : x.ok = true) (hy : y.ok = true) (wx : VW x) (wy : VW y) {a b : Option (Int × Int)} (ha : Rk x a) (hb : Rk y b) : x.same y = (cmO a b == 0) := by
  have hn := ha.num
  have hn' := hb.num
  unfold IsNum at hn hn'
  have e := cm_num hx hy wx wy ha hb
  show smG _ _ _ _ _ _ _ _ _ _ = _
  unfold smG
  have h1 : okB x.k x.n x.f x.s x.r = true := hx
  have h2 : okB y.k y.n y.f y.s y.r = true := hy
  rw [if_neg (by rw [h1, h2]; decide), if_pos ⟨hn, hn'⟩]
  exact congrArg (· == (0 : Int)) e
theorem same_else {x y : VD} (hx : x.ok = true) (hy : y.ok = true) (hn : ¬ (IsNum x ∧ IsNum y)) : x.same y = (x.k == y.k && x.n == y.n && x.s.toList == y.s.toList && x.r == y.r) := by
  unfold IsNum at hn
  show smG _ _ _ _ _ _ _ _ _ _ = _
  unfold smG
  have h1 : okB x.k x.n x.f x.s x.r = true := hx
  have h2 : okB y.k y.n y.f y.s y.r = true := hy
  rw [if_neg (by rw [h1, h2]; decide), if_neg hn]
theorem cmO_self (a : Int × Int) : cmO (some a) (some a) = 0 := by
  have h := cmpE_turn a a
  show cmpE a a = 0
  omega

/-- the keys of same values are the same -/
theorem key_same {x y : VD} (hx : x.ok = true) (hy : y.ok = true) (wx : VW x) (wy : VW y) (h : x.same y = true) : kc x = kc y ∧ (kc x = 0 → (kv x).same (kv y) = true) := by
  by_cases hn : IsNum x ∧ IsNum y
  · obtain ⟨a, ha⟩ := Rk.ex wx hn.1
    obtain ⟨b, hb⟩ := Rk.ex wy hn.2
    rw [same_num hx hy wx wy ha hb] at h
    have h0 : cmO a b = 0 := by simpa using h
    cases a with
    | none => simp [cmO] at h0
    | some a =>
      cases b with
      | none => simp [cmO] at h0
      | some b =>
        have k1 := kc_num hx ha
        have k2 := kc_num hy hb
        refine ⟨by rw [k1, k2]; rfl, fun _ => ?_⟩
        obtain ⟨r1, v1⟩ := kv_rk hx wx ha
        obtain ⟨r2, v2⟩ := kv_rk hy wy hb
        rw [same_num (kv_ok (by rw [k1]; rfl)) (kv_ok (by rw [k2]; rfl)) v1 v2 r1 r2, h0]
        rfl
  · have h' := h
    rw [same_else hx hy hn] at h
    simp only [Bool.and_eq_true, beq_iff_eq] at h
    obtain ⟨⟨⟨h1, h2⟩, h3⟩, h4⟩ := h
    have nx : ¬ IsNum x := fun c => hn ⟨c, by unfold IsNum at *; rw [← h1]; exact c⟩
    have ny : ¬ IsNum y := fun c => hn ⟨by unfold IsNum at *; rw [h1]; exact c, c⟩
    obtain ⟨e1, e2⟩ := kv_else hx nx
    obtain ⟨e3, e4⟩ := kv_else hy ny
    refine ⟨by rw [e1, e3, h1], fun hc => ?_⟩
    have h0 : x.k ≠ 0 := fun c => by rw [e1, if_pos c] at hc; omega
    rw [e2 h0, e4 (by rw [← h1]; exact h0)]
    exact h'
/-- a key is the same as its value, and a key of its own -/
theorem key_own {x : VD} (hx : x.ok = true) (wx : VW x) (hc : kc x = 0) : kc (kv x) = 0 ∧ (kv x).same x = true := by
  have hk := kokKv hc
  refine ⟨by unfold kOk at hk; simp only [Bool.and_eq_true, beq_iff_eq] at hk; exact hk.1, ?_⟩
  by_cases hn : IsNum x
  · obtain ⟨a, ha⟩ := Rk.ex wx hn
    cases a with
    | none => rw [kc_num hx ha] at hc; simp at hc
    | some a =>
      obtain ⟨r1, v1⟩ := kv_rk hx wx ha
      rw [same_num (kv_ok hc) hx v1 wx r1 ha, cmO_self]
      rfl
  · obtain ⟨e1, e2⟩ := kv_else hx hn
    have h0 : x.k ≠ 0 := fun c => by rw [e1, if_pos c] at hc; omega
    rw [e2 h0, same_else hx hx (fun c => hn c.1)]
    simp
theorem kv_w {x : VD} (hx : x.ok = true) (wx : VW x) : VW (kv x) := by
  have z : VW vz := ⟨by show (-9223372036854775808 : Int) ≤ 0; omega, by show (0 : Int) ≤ 9223372036854775807; omega, by show 0 < 2 ^ 64; decide, Nat.zero_le _⟩
  by_cases hn : IsNum x
  · obtain ⟨a, ha⟩ := Rk.ex wx hn
    cases a with
    | some a => exact (kv_rk hx wx ha).2
    | none =>
      rcases ha with ⟨h, e⟩ | ⟨h, e⟩
      · cases e
      · have hn := e.nan
        unfold nanB at hn
        have ho : FloatKind.f64.format.order x.f x.f ≠ some .eq := by simpa using hn
        have : kv x = vz := by unfold kv; rw [hx, h]; simp [ho]
        rw [this]; exact z
  · by_cases h0 : x.k = 0
    · have : kv x = vz := by unfold kv; rw [hx, h0]; simp
      rw [this]; exact z
    · rw [(kv_else hx hn).2 h0]; exact wx
end Go.Proofs.YtiidepafifodjabGreat
