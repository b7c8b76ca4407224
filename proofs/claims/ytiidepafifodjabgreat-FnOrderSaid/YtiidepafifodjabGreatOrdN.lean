import Derived.Test.YtiidepafifodjabGreatOrdM
import Derived.Test.YtiidepafifodjabGreatTab
/-! Compare, Same and Key at valid values, plain: turned around, handed on. -/
namespace Go.Proofs.YtiidepafifodjabGreat
open Go.RowKit

theorem kokKv {x : VD} (h : kc x = 0) : kOk (kv x) = true := by
  unfold kc at h
  by_cases h1 : x.ok = false
  · rw [if_pos h1] at h; omega
  rw [if_neg h1] at h
  by_cases h2 : x.k = 0
  · rw [if_pos h2] at h; omega
  rw [if_neg h2] at h
  have h1' : x.ok = true := by simpa using h1
  by_cases h3 : x.k = 3
  · rw [if_pos h3] at h
    by_cases h4 : FloatKind.f64.format.order x.f x.f ≠ some .eq
    · rw [if_pos h4] at h; omega
    · unfold kv
      rw [if_neg h1, if_neg h2, if_pos h3, if_neg h4]
      have h4' : FloatKind.f64.format.order x.f x.f = some .eq := by simpa using h4
      cases h5 : whB x.f
      · simp only [Bool.false_eq_true, if_false]
        have o : okB 3 0 x.f ⟨#[]⟩ 0 = true := by simp [okB, ueB, usB, se]
        simp [kOk, kc, kv, o, h4', h5]
      · simp only [if_true]
        have o : ∀ n, okB 2 n 0 ⟨#[]⟩ 0 = true := fun n => by simp [okB, ueB, usB, se, fz, order00]
        simp [kOk, kc, kv, o]
  · have : kv x = x := by unfold kv; rw [if_neg h1, if_neg h2, if_neg h3]
    rw [this]
    simp [kOk, kc, kv, h1', h2, h3]

abbrev VD.cm (x y : VD) : Int := cmG x.k x.n x.f x.s x.r y.k y.n y.f y.s y.r
/-- a value's fields within their bounds -/
structure VW (x : VD) : Prop where
  n1 : -9223372036854775808 ≤ x.n
  n2 : x.n ≤ 9223372036854775807
  f : x.f < 2 ^ 64
  s : x.s.size ≤ maxLen

theorem cby_turn : ∀ a b : List UInt8, Lib.compareBytes b a = -(Lib.compareBytes a b)
  | [], [] => rfl
  | [], _ :: _ => rfl
  | _ :: _, [] => rfl
  | a :: l, b :: m => by
    have h := cby_turn l m
    simp only [Lib.compareBytes, UInt8.lt_iff_toNat_lt] at *
    (repeat' split) <;> omega
theorem cby_rng : ∀ a b : List UInt8, Lib.compareBytes a b = -1 ∨ Lib.compareBytes a b = 0 ∨ Lib.compareBytes a b = 1
  | [], [] => .inr (.inl rfl)
  | [], _ :: _ => .inl rfl
  | _ :: _, [] => .inr (.inr rfl)
  | a :: l, b :: m => by
    have h := cby_rng l m
    simp only [Lib.compareBytes]
    (repeat' split) <;> simp [h]
theorem cby_zero : ∀ a b : List UInt8, Lib.compareBytes a b = 0 → a = b
  | [], [], _ => rfl
  | [], _ :: _, h => by simp [Lib.compareBytes] at h
  | _ :: _, [], h => by simp [Lib.compareBytes] at h
  | a :: l, b :: m, h => by
    simp only [Lib.compareBytes, UInt8.lt_iff_toNat_lt] at h
    split at h
    · omega
    · split at h
      · omega
      · have e : a = b := UInt8.toNat_inj.1 (by omega)
        rw [e, cby_zero l m h]
theorem cby_less : ∀ a b c : List UInt8, Lib.compareBytes a b = -1 → Lib.compareBytes b c = -1 → Lib.compareBytes a c = -1
  | [], [], _, h, _ => by simp [Lib.compareBytes] at h
  | [], _ :: _, [], _, k => by simp [Lib.compareBytes] at k
  | [], _ :: _, _ :: _, _, _ => rfl
  | _ :: _, [], _, h, _ => by simp [Lib.compareBytes] at h
  | _ :: _, _ :: _, [], _, k => by simp [Lib.compareBytes] at k
  | a :: l, b :: m, c :: o, h, k => by
    have ih := cby_less l m o
    simp only [Lib.compareBytes, UInt8.lt_iff_toNat_lt] at *
    split at h <;> split at k
    · rw [if_pos (by omega)]
    · split at k
      · omega
      · rw [if_pos (by omega)]
    · split at h
      · omega
      · rw [if_pos (by omega)]
    · split at h
      · omega
      · split at k
        · omega
        · rw [if_neg (by omega), if_neg (by omega)]; exact ih h k

def IsNum (x : VD) : Prop := x.k = 2 ∨ x.k = 3
/-- where a number stands -/
def Rk (x : VD) (v : Option (Int × Int)) : Prop := (x.k = 2 ∧ v = some (0, x.n * ((2 ^ 1074 : Nat) : Int))) ∨ (x.k = 3 ∧ RkF x.f v)
theorem Rk.ex {x : VD} (hw : VW x) (h : IsNum x) : ∃ v, Rk x v := by
  rcases h with h | h
  · exact ⟨_, .inl ⟨h, rfl⟩⟩
  · obtain ⟨v, hv⟩ := RkF.ex hw.f
    exact ⟨v, .inr ⟨h, hv⟩⟩
theorem Rk.num {x : VD} {v : Option (Int × Int)} (h : Rk x v) : IsNum x := by
  rcases h with ⟨h, _⟩ | ⟨h, _⟩
  · exact .inl h
  · exact .inr h
def cmO : Option (Int × Int) → Option (Int × Int) → Int
  | some a, some b => cmpE a b
  | _, _ => 2
theorem cmO_none (a : Option (Int × Int)) : cmO a none = 2 := by cases a <;> rfl

theorem cmp_mulE {K : Int} (hK : 0 < K) (a b : Int) : cmpI a b = cmO (some (0, a * K)) (some (0, b * K)) := by
  rw [← cmp_mul hK a b]
  simp [cmO, cmpE]

theorem cm_num {x y : VD} (hx : x.ok = true) (hy : y.ok = true) (wx : VW x) (wy : VW y) {a b : Option (Int × Int)} (ha : Rk x a) (hb : Rk y b) : x.cm y = cmO a b := by
  obtain ⟨k, n, f, s, r⟩ := x
  obtain ⟨k', n', f', s', r'⟩ := y
  have hx' : okB k n f s r = true := hx
  have hy' : okB k' n' f' s' r' = true := hy
  show cmG k n f s r k' n' f' s' r' = _
  unfold cmG
  rw [if_neg (by rw [hx', hy']; decide)]
  rcases ha with ⟨h1, h2⟩ | ⟨h1, h2⟩ <;> rcases hb with ⟨k1, k2⟩ | ⟨k1, k2⟩ <;> simp only at h1 h2 k1 k2 <;> subst h1 <;> subst k1
  · rw [if_neg (by decide), if_pos (by decide), h2, k2]
    exact cmp_mulE (Int.natCast_pos.2 Fl.K_pos) n n'
  · rw [if_neg (by decide), if_neg (by decide), if_pos (by decide), h2]
    unfold mixG
    rw [k2.nan]
    cases b with
    | none => simp [cmO]
    | some b =>
      simp only [Option.isNone_some, Bool.false_eq_true, if_false]
      exact cmpIF_rk wx.n1 wx.n2 k2
  · rw [if_neg (by decide), if_neg (by decide), if_neg (by decide), if_pos (by decide), k2]
    unfold mixR
    rw [h2.nan]
    cases a with
    | none => simp [cmO]
    | some a =>
      simp only [Option.isNone_some, Bool.false_eq_true, if_false]
      rw [cmpIF_rk wy.n1 wy.n2 h2, ← cmpE_turn]
      rfl
  · rw [if_neg (by decide), if_neg (by decide), if_neg (by decide), if_neg (by decide), if_pos (by decide)]
    unfold fltG
    rw [h2.nan, k2.nan]
    cases a with
    | none => simp [cmO]
    | some a =>
      cases b with
      | none => simp [cmO]
      | some b =>
        simp only [Option.isNone_some, Bool.or_self, Bool.false_eq_true, if_false]
        exact cmpF_rk h2 k2
theorem cm_str {x y : VD} (hx : x.ok = true) (hy : y.ok = true) (h : x.k = 4) (h' : y.k = 4) : x.cm y = cbs x.s y.s := by
  show cmG _ _ _ _ _ _ _ _ _ _ = _
  unfold cmG
  rw [if_neg (by have h1 : okB x.k x.n x.f x.s x.r = true := hx; have h2 : okB y.k y.n y.f y.s y.r = true := hy; rw [h1, h2]; decide), if_pos ⟨h, h'⟩]
theorem cm_else {x y : VD} (h : ¬ (x.k = 4 ∧ y.k = 4)) (h' : ¬ (IsNum x ∧ IsNum y)) : x.cm y = 3 := by
  show cmG _ _ _ _ _ _ _ _ _ _ = _
  unfold cmG IsNum at *
  (repeat' split) <;> first | rfl | (exfalso; omega)

/-- a pair of valid values: two numbers, two strings, or neither -/
theorem cm_cases {x y : VD} (hx : x.ok = true) (hy : y.ok = true) (wx : VW x) (wy : VW y) : (∃ a b, Rk x a ∧ Rk y b ∧ x.cm y = cmO a b) ∨ (x.k = 4 ∧ y.k = 4 ∧ x.cm y = cbs x.s y.s) ∨ (¬ (x.k = 4 ∧ y.k = 4) ∧ ¬ (IsNum x ∧ IsNum y) ∧ x.cm y = 3) := by
  by_cases h4 : x.k = 4 ∧ y.k = 4
  · exact .inr (.inl ⟨h4.1, h4.2, cm_str hx hy h4.1 h4.2⟩)
  · by_cases hn : IsNum x ∧ IsNum y
    · obtain ⟨a, ha⟩ := Rk.ex wx hn.1
      obtain ⟨b, hb⟩ := Rk.ex wy hn.2
      exact .inl ⟨a, b, ha, hb, cm_num hx hy wx wy ha hb⟩
    · exact .inr (.inr ⟨h4, hn, cm_else h4 hn⟩)
theorem cmO_turn (a b : Option (Int × Int)) : (cmO a b < 2 → cmO b a = -(cmO a b)) ∧ (2 ≤ cmO a b → cmO b a = cmO a b) := by
  cases a with
  | none => rw [cmO_none]; cases b <;> simp [cmO]
  | some a =>
    cases b with
    | none => simp [cmO]
    | some b =>
      have h := cmpE_turn a b
      have k := cmpE_rng a b
      simp only [cmO]
      omega
theorem cm_turn {x y : VD} (hx : x.ok = true) (hy : y.ok = true) (wx : VW x) (wy : VW y) : (x.cm y < 2 → y.cm x = -(x.cm y)) ∧ (2 ≤ x.cm y → y.cm x = x.cm y) := by
  rcases cm_cases hx hy wx wy with ⟨a, b, ha, hb, e⟩ | ⟨h1, h2, e⟩ | ⟨h1, h2, e⟩
  · rw [e, cm_num hy hx wy wx hb ha]
    exact cmO_turn a b
  · rw [e, cm_str hy hx h2 h1]
    have h := cby_turn x.s.data.toList y.s.data.toList
    have k := cby_rng x.s.data.toList y.s.data.toList
    simp only [cbs] at *
    omega
  · rw [e, cm_else (fun c => h1 ⟨c.2, c.1⟩) (fun c => h2 ⟨c.2, c.1⟩)]
    omega
theorem cm_rng {x y : VD} (hx : x.ok = true) (hy : y.ok = true) (wx : VW x) (wy : VW y) : -1 ≤ x.cm y ∧ x.cm y ≤ 3 := by
  rcases cm_cases hx hy wx wy with ⟨a, b, ha, hb, e⟩ | ⟨h1, h2, e⟩ | ⟨h1, h2, e⟩
  · rw [e]
    cases a <;> cases b <;> simp only [cmO] <;> first | omega | (rename_i a b; have := cmpE_rng a b; omega)
  · rw [e]
    have k := cby_rng x.s.data.toList y.s.data.toList
    simp only [cbs]
    omega
  · omega
theorem Rk.one {x : VD} {a b : Option (Int × Int)} (ha : Rk x a) (hb : Rk x b) : a = b := by
  rcases ha with ⟨h1, h2⟩ | ⟨h1, h2⟩ <;> rcases hb with ⟨k1, k2⟩ | ⟨k1, k2⟩
  · rw [h2, k2]
  · omega
  · omega
  · rcases h2 with ⟨s, M, hx, _, e⟩ | ⟨s, h, e⟩ | ⟨⟨s, t, h⟩, e⟩ <;> rcases k2 with ⟨s', M', hx', _, e'⟩ | ⟨s', h', e'⟩ | ⟨⟨s', t', h'⟩, e'⟩
    · obtain ⟨m, i, c1, _, c2⟩ := hx
      obtain ⟨m', i', d1, _, d2⟩ := hx'
      rw [c1] at d1
      cases d1
      rw [e, e', ← c2, ← d2]
    · obtain ⟨m, i, c1, _, _⟩ := hx; rw [c1] at h'; cases h'
    · obtain ⟨m, i, c1, _, _⟩ := hx; rw [c1] at h'; cases h'
    · obtain ⟨m, i, c1, _, _⟩ := hx'; rw [c1] at h; cases h
    · rw [h] at h'; cases h'; rw [e, e']
    · rw [h] at h'; cases h'
    · obtain ⟨m, i, c1, _, _⟩ := hx'; rw [c1] at h; cases h
    · rw [h] at h'; cases h'
    · rw [e, e']
/-- handed on -/
theorem cm_less {x y z : VD} (hx : x.ok = true) (hy : y.ok = true) (hz : z.ok = true) (wx : VW x) (wy : VW y) (wz : VW z) (h : x.cm y = -1) (k : y.cm z = -1) : x.cm z = -1 := by
  rcases cm_cases hx hy wx wy with ⟨a, b, ha, hb, e⟩ | ⟨h1, h2, e⟩ | ⟨h1, h2, e⟩
  · rcases cm_cases hy hz wy wz with ⟨b', c, hb', hc, e'⟩ | ⟨k1, k2, e'⟩ | ⟨k1, k2, e'⟩
    · obtain rfl := hb.one hb'
      rw [cm_num hx hz wx wz ha hc]
      rw [e] at h
      rw [e'] at k
      cases a with
      | none => simp [cmO] at h
      | some a =>
        cases b with
        | none => simp [cmO] at h
        | some b =>
          cases c with
          | none => simp [cmO] at k
          | some c => exact cmpE_lt h k
    · have := hb.num; unfold IsNum at this; omega
    · omega
  · rcases cm_cases hy hz wy wz with ⟨b', c, hb', hc, e'⟩ | ⟨k1, k2, e'⟩ | ⟨k1, k2, e'⟩
    · have := hb'.num; unfold IsNum at this; omega
    · rw [cm_str hx hz h1 k2]
      rw [e] at h
      rw [e'] at k
      exact cby_less _ _ _ h k
    · omega
  · omega
theorem cm_equal {x y z : VD} (hx : x.ok = true) (hy : y.ok = true) (hz : z.ok = true) (wx : VW x) (wy : VW y) (wz : VW z) (h : x.cm y = 0) (k : y.cm z < 2) : x.cm z = y.cm z := by
  rcases cm_cases hx hy wx wy with ⟨a, b, ha, hb, e⟩ | ⟨h1, h2, e⟩ | ⟨h1, h2, e⟩
  · rcases cm_cases hy hz wy wz with ⟨b', c, hb', hc, e'⟩ | ⟨k1, k2, e'⟩ | ⟨k1, k2, e'⟩
    · obtain rfl := hb.one hb'
      rw [cm_num hx hz wx wz ha hc, e']
      rw [e] at h
      cases a with
      | none => simp [cmO] at h
      | some a =>
        cases b with
        | none => simp [cmO] at h
        | some b =>
          cases c with
          | none => rfl
          | some c => exact cmpE_eq h
    · have := hb.num; unfold IsNum at this; omega
    · omega
  · rcases cm_cases hy hz wy wz with ⟨b', c, hb', hc, e'⟩ | ⟨k1, k2, e'⟩ | ⟨k1, k2, e'⟩
    · have := hb'.num; unfold IsNum at this; omega
    · rw [cm_str hx hz h1 k2, e']
      rw [e] at h
      have := cby_zero _ _ h
      show Lib.compareBytes _ _ = Lib.compareBytes _ _
      rw [this]
    · omega
  · omega
end Go.Proofs.YtiidepafifodjabGreat
