import Derived.Test.YtiidepafifodjabGreatSameS
import Derived.Test.YtiidepafifodjabGreatKeyS
import Derived.Test.YtiidepafifodjabGreatMapS
/-! Tables: plain facts on keys, marks and places. -/
namespace Go.Proofs.YtiidepafifodjabGreat
open Go.RowKit

/-- a value's five fields -/
structure VD where
  k : Int
  n : Int
  f : Nat
  s : ByteArray
  r : Int
/-- a pair -/
structure PD where
  key : VD
  val : VD
  turn : Int
def vz : VD := ⟨0, 0, 0, ⟨#[]⟩, 0⟩
abbrev VD.v (x : VD) : Value := vOf x.k x.n x.f x.s x.r
abbrev VD.ok (x : VD) : Bool := okB x.k x.n x.f x.s x.r
abbrev VD.same (x y : VD) : Bool := smG x.k x.n x.f x.s x.r y.k y.n y.f y.s y.r

/-- Key's code and value -/
def kc (x : VD) : Int := if x.ok = false then 1 else if x.k = 0 then 5 else if x.k = 3 then (if FloatKind.f64.format.order x.f x.f ≠ some .eq then 5 else 0) else 0
def kv (x : VD) : VD := if x.ok = false then vz else if x.k = 0 then vz else if x.k = 3 then (if FloatKind.f64.format.order x.f x.f ≠ some .eq then vz else if whB x.f then ⟨2, (floatToIntVal .f64 x.f .i64).getD 0, 0, ⟨#[]⟩, 0⟩ else ⟨3, 0, x.f, ⟨#[]⟩, 0⟩) else x
abbrev kgV (c : Int) (x : VD) : Value := gV c x.k x.n x.f x.s x.r

theorem kyG_kv (x : VD) : kyG x.k x.n x.f x.s x.r = kgV (kc x) (kv x) := by
  unfold kyG kc kv fkG
  by_cases h1 : x.ok = false
  · have : okB x.k x.n x.f x.s x.r = false := h1
    rw [if_pos h1, if_pos this, if_pos h1]; rfl
  · have : ¬ okB x.k x.n x.f x.s x.r = false := h1
    rw [if_neg h1, if_neg this, if_neg h1]
    by_cases h2 : x.k = 0
    · simp only [if_pos h2]; rfl
    · simp only [if_neg h2]
      by_cases h3 : x.k = 3
      · simp only [if_pos h3]
        by_cases h4 : FloatKind.f64.format.order x.f x.f ≠ some .eq
        · simp only [if_pos h4]; rfl
        · simp only [if_neg h4]
          cases whB x.f <;> rfl
      · simp only [if_neg h3]

/-- a key that stands as Key makes it -/
def kOk (x : VD) : Bool := kc x == 0 && (kv x).k == x.k

theorem kOk_parts {x : VD} (h : kOk x = true) : x.ok = true ∧ x.k ≠ 0 ∧ (x.k = 3 → FloatKind.f64.format.order x.f x.f = some .eq ∧ whB x.f = false) ∧ kv x = x := by
  unfold kOk kc kv at h
  unfold kv
  by_cases h1 : x.ok = false
  · rw [if_pos h1, if_pos h1] at h; simp at h
  rw [if_neg h1, if_neg h1] at h
  rw [if_neg h1]
  by_cases h2 : x.k = 0
  · rw [if_pos h2, if_pos h2] at h; simp at h
  rw [if_neg h2, if_neg h2] at h
  rw [if_neg h2]
  have h1' : x.ok = true := by simpa using h1
  by_cases h3 : x.k = 3
  · rw [if_pos h3, if_pos h3] at h
    rw [if_pos h3]
    by_cases h4 : FloatKind.f64.format.order x.f x.f ≠ some .eq
    · rw [if_pos h4, if_pos h4] at h; simp at h
    · rw [if_neg h4, if_neg h4] at h
      rw [if_neg h4]
      cases h5 : whB x.f
      · refine ⟨h1', h2, fun _ => ⟨by simpa using h4, rfl⟩, ?_⟩
        obtain ⟨k, n, f, s, r⟩ := x
        simp only at h3 h1'
        subst h3
        obtain ⟨rfl, rfl, rfl⟩ := ok3 h1'
        simp
      · rw [h5] at h; simp [h3] at h
  · rw [if_neg h3]
    exact ⟨h1', h2, fun h => absurd h h3, rfl⟩

theorem se_nil {s : ByteArray} (h : se s = true) : s = ⟨#[]⟩ := by
  simp only [se, List.isEmpty_iff] at h
  rw [ByteArray.toList_eq] at h
  obtain ⟨⟨l⟩⟩ := s
  have : l = [] := h
  rw [this]
theorem toList_inj {s t : ByteArray} (h : s.toList = t.toList) : s = t := by
  rw [ByteArray.toList_eq, ByteArray.toList_eq] at h
  obtain ⟨⟨l⟩⟩ := s
  obtain ⟨⟨m⟩⟩ := t
  have : l = m := h
  rw [this]

theorem ord_zero_self {f : Nat} (hf : f < 2 ^ 64) (h : fz f = true) : FloatKind.f64.format.order f f = some .eq := by
  have h' : Ieee.double.order f 0 = some .eq := by unfold fz at h; exact eq_of_beq h
  show Ieee.double.order f f = some .eq
  rcases Fl.sort3 hf with ⟨s, M, hx, hr, he⟩ | ⟨s, hr, he⟩ | ⟨s, t, hr⟩
  · rw [Fl.order_fin hx hx]; simp
  · obtain ⟨m0, i0, z1, _, _⟩ := Fl.fin_zero
    unfold Ieee.Format.order at h'
    rw [hr, z1] at h'
    cases s <;> exact nomatch h'
  · exfalso
    unfold Ieee.Format.order at h'
    rw [hr] at h'
    exact nomatch h'

theorem ok_fz {k n : Int} {f : Nat} {s : ByteArray} {r : Int} (h : okB k n f s r = true) (h3 : k ≠ 3) : fz f = true := by
  have h := ue_of_ok h
  unfold ueB at h
  rw [if_neg (c := k = 3) h3] at h
  (repeat' split at h) <;> simp at h <;> simp [h]

/-- the comparison of two structs, field by field -/
def eqV (x y : VD) : Bool := x.k == y.k && x.n == y.n && FloatKind.f64.format.order x.f y.f == some .eq && x.s == y.s && x.r == y.r

theorem bbeq (s : ByteArray) : (s == s) = true := by
  show (s.data == s.data) = true
  simp
theorem bbeq_eq {s t : ByteArray} : (s == t) = decide (s = t) := by
  show (s.data == t.data) = decide (s = t)
  obtain ⟨a⟩ := s
  obtain ⟨b⟩ := t
  by_cases h : a = b
  · subst h; simp
  · simp [h]

theorem eqV_kv (x : VD) (hf : x.f < 2 ^ 64) (hc : kc x = 0) : eqV (kv x) x = ((kv x).k == x.k) := by
  cases hk : ((kv x).k == x.k)
  · simp [eqV, hk]
  · have h : kOk x = true := by simp [kOk, hc, hk]
    obtain ⟨h1, h2, h3, h4⟩ := kOk_parts h
    rw [h4]
    have ho : FloatKind.f64.format.order x.f x.f = some .eq := by
      by_cases h : x.k = 3
      · exact (h3 h).1
      · exact ord_zero_self hf (ok_fz h1 h)
    simp [eqV, ho, bbeq]

/-- what a key is told apart by -/
def mk (x : VD) : Mk := (x.k, x.n, if x.k = 3 then x.f else 0, x.s, x.r)

theorem floor_rep {s : Bool} {M : Nat} (hr : Fl.rep M) : Fl.rep ((M / 2 ^ 1074 + (s && M % 2 ^ 1074 != 0).toNat) * 2 ^ 1074) := by
  have hsm := Fl.whole_small hr
  have hrt := Fl.rep_trunc hr
  by_cases hm : (s && M % 2 ^ 1074 != 0) = true
  · rw [hm]
    have := hsm (by rw [Bool.and_eq_true] at hm; exact bne_iff_ne.1 hm.2)
    refine Fl.rep_int ?_
    generalize M / 2 ^ 1074 = q at *
    simp; omega
  · rw [Bool.not_eq_true] at hm
    rw [hm]
    exact hrt
theorem floor_le {f : Nat} (hf : f < 2 ^ 64) (hE : FloatKind.f64.format.order f f = some .eq) :
    FloatKind.f64.format.order f (Fl.floorW f) = some .gt ∨ FloatKind.f64.format.order f (Fl.floorW f) = some .eq := by
  show Ieee.double.order f (Fl.floorW f) = some .gt ∨ Ieee.double.order f (Fl.floorW f) = some .eq
  rcases Fl.sort3 hf with ⟨s, M, hx, hr, he⟩ | ⟨s, hr, he⟩ | ⟨s, t, hr⟩
  · have hQ := Fl.read_enc s (floor_rep (s := s) hr)
    rw [Fl.floorW_fin hx, Fl.order_fin hx hQ]
    have hdm := Fl.div_mod M (2 ^ 1074)
    have hlt := Nat.mod_lt M Fl.K_pos
    clear hQ hx hr he hE hf
    generalize 2 ^ 1074 = K at *
    generalize hq : M / K = q at *
    generalize hm : M % K = m at *
    cases s
    · have e2 : (q + (false && m != 0).toNat) = q := by simp
      rw [e2]
      by_cases h0 : m = 0
      · right; congr 1; refine Int.compare_eq_eq.2 ?_; simp only [Fl.sv, Bool.false_eq_true, if_false]; omega
      · left; congr 1; refine Int.compare_eq_gt.2 ?_; simp only [Fl.sv, Bool.false_eq_true, if_false]; omega
    · by_cases h0 : m = 0
      · have e2 : (q + (true && m != 0).toNat) = q := by simp [h0]
        rw [e2]
        right; congr 1; refine Int.compare_eq_eq.2 ?_; simp only [Fl.sv, if_true]; omega
      · have e2 : (q + (true && m != 0).toNat) = q + 1 := by simp [h0]
        rw [e2]
        have e3 : (q + 1) * K = q * K + K := by rw [Nat.add_mul, Nat.one_mul]
        rw [e3]
        left; congr 1; refine Int.compare_eq_gt.2 ?_; simp only [Fl.sv, if_true]; omega
  · rw [Fl.floorW_inf hr he]; exact .inr hE
  · exfalso
    have hE : Ieee.double.order f f = some .eq := hE
    unfold Ieee.Format.order at hE
    rw [hr] at hE
    exact nomatch hE

theorem cmpIF_no {f : Nat} (hf : f < 2 ^ 64) (hE : FloatKind.f64.format.order f f = some .eq) (hw : whB f = false) (n : Int) : cmpIF n f ≠ 0 := by
  unfold cmpIF
  split
  · decide
  · rename_i h1
    have h1 : FloatKind.f64.format.order f two63 = some .lt := by simpa using h1
    split
    · decide
    · rename_i h2
      split
      · decide
      · split
        · decide
        · split
          · decide
          · rename_i h5
            exfalso
            obtain ⟨d, hd⟩ := ord_some hf hE Fl.fin_ntwo63
            have hd : FloatKind.f64.format.order f ntwo63 = some d := hd
            have hlo : FloatKind.f64.format.order f ntwo63 = some .gt ∨ FloatKind.f64.format.order f ntwo63 = some .eq := by
              cases d
              · exact absurd hd h2
              · exact .inr hd
              · exact .inl hd
            have hfl : FloatKind.f64.format.order f (Fl.floorW f) = some .eq := by
              rcases floor_le hf hE with h | h
              · exact absurd h h5
              · exact h
            have : whB f = true := by
              unfold whB
              rw [h1, hfl]
              rcases hlo with h | h <;> simp [h]
            rw [this] at hw; cases hw

theorem pos63 (K : Nat) (h : 0 < K) : 0 < 2 ^ 63 * K := Nat.mul_pos (by decide) h
/-- two floats that are no NaN are comparable -/
theorem ord_tot {f g : Nat} (hf : f < 2 ^ 64) (hg : g < 2 ^ 64) (hE : FloatKind.f64.format.order f f = some .eq) (hG : FloatKind.f64.format.order g g = some .eq) : ∃ d, FloatKind.f64.format.order f g = some d := by
  show ∃ d, Ieee.double.order f g = some d
  have hE : Ieee.double.order f f = some .eq := hE
  have hG : Ieee.double.order g g = some .eq := hG
  rcases Fl.sort3 hf with ⟨s, M, hx, hr, he⟩ | ⟨s, hr, he⟩ | ⟨s, t, hr⟩
  · rcases Fl.sort3 hg with ⟨s', M', hx', hr', he'⟩ | ⟨s', hr', he'⟩ | ⟨s', t', hr'⟩
    · exact ⟨_, Fl.order_fin hx hx'⟩
    · obtain ⟨m, i, z, _, _⟩ := hx
      unfold Ieee.Format.order
      rw [z, hr']
      cases s' <;> exact ⟨_, rfl⟩
    · unfold Ieee.Format.order at hG
      rw [hr'] at hG
      exact nomatch hG
  · rcases Fl.sort3 hg with ⟨s', M', hx', hr', he'⟩ | ⟨s', hr', he'⟩ | ⟨s', t', hr'⟩
    · obtain ⟨m, i, z, _, _⟩ := hx'
      unfold Ieee.Format.order
      rw [hr, z]
      cases s <;> exact ⟨_, rfl⟩
    · unfold Ieee.Format.order
      rw [hr, hr']
      cases s <;> cases s' <;> exact ⟨_, rfl⟩
    · unfold Ieee.Format.order at hG
      rw [hr'] at hG
      exact nomatch hG
  · unfold Ieee.Format.order at hE
    rw [hr] at hE
    exact nomatch hE

/-- a float that is no whole number is the same as another float just if it has its bits -/
theorem flt_same {f g : Nat} (hf : f < 2 ^ 64) (hg : g < 2 ^ 64) (hE : FloatKind.f64.format.order f f = some .eq) (hw : whB f = false) (h : FloatKind.f64.format.order f g = some .eq) : f = g := by
  have h : Ieee.double.order f g = some .eq := h
  rcases Fl.sort3 hf with ⟨s, M, hx, hr, he⟩ | ⟨s, hr, he⟩ | ⟨s, t, hr⟩
  · rcases Fl.sort3 hg with ⟨s', M', hx', hr', he'⟩ | ⟨s', hr', he'⟩ | ⟨s', t', hr'⟩
    · rw [Fl.order_fin hx hx'] at h
      have h := Int.compare_eq_eq.1 (Option.some.inj h)
      have h0 : M ≠ 0 := by
        intro h0
        subst h0
        have hw' : whB f = true := by
          unfold whB
          rw [floorW_zero hx he, hE]
          have a : FloatKind.f64.format.order f ntwo63 = some .gt := by
            show Ieee.double.order f ntwo63 = some .gt
            have hK := Fl.K_pos
            have h1 := Fl.order_fin hx Fl.fin_ntwo63
            generalize 2 ^ 1074 = K at hK h1
            exact h1.trans (congrArg some (cmp_hi s _ _ (pos63 _ hK)))
          have b : FloatKind.f64.format.order f two63 = some .lt := by
            show Ieee.double.order f two63 = some .lt
            have hK := Fl.K_pos
            have h1 := Fl.order_fin hx Fl.fin_two63
            generalize 2 ^ 1074 = K at hK h1
            exact h1.trans (congrArg some (cmp_lo s _ _ (pos63 _ hK)))
          rw [a, b]; rfl
        rw [hw'] at hw; cases hw
      obtain ⟨rfl, rfl⟩ := Fl.sv_inj h h0
      rw [he, he']
    · exfalso
      obtain ⟨m, i, z, _, _⟩ := hx
      unfold Ieee.Format.order at h
      rw [z, hr'] at h
      cases s' <;> exact nomatch h
    · exfalso
      unfold Ieee.Format.order at h
      rw [hr'] at h
      obtain ⟨m, i, z, _, _⟩ := hx
      rw [z] at h
      exact nomatch h
  · rcases Fl.sort3 hg with ⟨s', M', hx', hr', he'⟩ | ⟨s', hr', he'⟩ | ⟨s', t', hr'⟩
    · exfalso
      obtain ⟨m, i, z, _, _⟩ := hx'
      unfold Ieee.Format.order at h
      rw [hr, z] at h
      cases s <;> exact nomatch h
    · unfold Ieee.Format.order at h
      rw [hr, hr'] at h
      have : s = s' := by cases s <;> cases s' <;> first | rfl | exact nomatch h
      rw [he, he', this]
    · exfalso
      unfold Ieee.Format.order at h
      rw [hr, hr'] at h
      exact nomatch h
  · exfalso
    have hE : Ieee.double.order f f = some .eq := hE
    unfold Ieee.Format.order at hE
    rw [hr] at hE
    exact nomatch hE

theorem ok2 {n : Int} {f : Nat} {s : ByteArray} {r : Int} (h : okB 2 n f s r = true) : s = ⟨#[]⟩ ∧ r = 0 := by
  have h := ue_of_ok h
  unfold ueB at h
  simp at h
  exact ⟨se_nil h.1.2, h.2⟩

/-- keys are the same just if their marks are -/
theorem same_mark (x y : VD) (hf : x.f < 2 ^ 64) (hg : y.f < 2 ^ 64) (hx : kOk x = true) (hy : kOk y = true) : x.same y = decide (mk x = mk y) := by
  obtain ⟨x1, x2, x3, _⟩ := kOk_parts hx
  obtain ⟨y1, y2, y3, _⟩ := kOk_parts hy
  obtain ⟨k, n, f, s, r⟩ := x
  obtain ⟨k', n', f', s', r'⟩ := y
  simp only [VD.same, VD.ok, mk] at *
  unfold smG
  rw [if_neg (by rw [x1, y1]; decide)]
  by_cases cn : (k = 2 ∨ k = 3) ∧ (k' = 2 ∨ k' = 3)
  · rw [if_pos cn]
    unfold cmG
    rw [if_neg (by rw [x1, y1]; decide)]
    rcases cn with ⟨rfl | rfl, rfl | rfl⟩
    · obtain ⟨rfl, rfl⟩ := ok2 x1
      obtain ⟨rfl, rfl⟩ := ok2 y1
      simp [cmpI]
      by_cases h : n = n'
      · subst h; simp
      · simp [h]; (repeat' split) <;> first | decide | omega
    · simp [mixG]
      cases hn : nanB f'
      · have := cmpIF_no hg (y3 rfl).1 (y3 rfl).2 n
        simpa using this
      · simp
    · simp [mixR]
      cases hn : nanB f
      · have := cmpIF_no hf (x3 rfl).1 (x3 rfl).2 n'
        simp; omega
      · simp
    · obtain ⟨rfl, rfl, rfl⟩ := ok3 x1
      obtain ⟨rfl, rfl, rfl⟩ := ok3 y1
      simp [fltG, nanB, (x3 rfl).1, (y3 rfl).1, cmpF]
      by_cases h : f = f'
      · subst h; simp [(x3 rfl).1]
      · simp [h]
        have : FloatKind.f64.format.order f f' ≠ some .eq := fun e => h (flt_same hf hg (x3 rfl).1 (x3 rfl).2 e)
        cases ho : FloatKind.f64.format.order f f' with
        | none =>
          exfalso
          obtain ⟨d, hd⟩ := ord_tot hf hg (x3 rfl).1 (y3 rfl).1
          rw [hd] at ho; cases ho
        | some d => cases d <;> simp_all
  · rw [if_neg cn]
    by_cases hk : k = k'
    · subst hk
      have h3 : k ≠ 3 := fun h => cn ⟨.inr h, .inr h⟩
      simp only [if_neg h3]
      by_cases h : n = n' ∧ s = s' ∧ r = r'
      · obtain ⟨rfl, rfl, rfl⟩ := h; simp
      · have : ¬ (s.toList = s'.toList ∧ n = n' ∧ r = r') := fun ⟨a, b, c⟩ => h ⟨b, toList_inj a, c⟩
        simp
        grind
    · simp [hk]

/-- where each key of the first n stands -/
def places (q : Nat → PD) : Nat → List (Mk × Nat)
  | 0 => []
  | i + 1 => upd (places q i) (mk (q i).key) i

theorem upd_fresh : ∀ (L : List (Mk × Nat)) (m : Mk) (i : Nat), m ∉ L.map (·.1) → upd L m i = L ++ [(m, i)]
  | [], _, _, _ => rfl
  | (m', j) :: L, m, i, h => by
    simp only [List.map_cons, List.mem_cons, not_or] at h
    rw [upd, if_neg h.1, upd_fresh L m i h.2]; rfl
theorem upd_keys : ∀ (L : List (Mk × Nat)) (m : Mk) (i : Nat), m ∈ L.map (·.1) → (upd L m i).map (·.1) = L.map (·.1)
  | [], _, _, h => by simp at h
  | (m', j) :: L, m, i, h => by
    by_cases c : m = m'
    · rw [upd, if_pos c, c]; rfl
    · simp only [List.map_cons, List.mem_cons] at h
      rw [upd, if_neg c, List.map_cons, upd_keys L m i (h.resolve_left c)]; rfl

theorem places_mem (q : Nat → PD) : ∀ (n : Nat) (m : Mk), m ∈ (places q n).map (·.1) ↔ ∃ j, j < n ∧ m = mk (q j).key
  | 0, m => by simp [places]
  | n + 1, m => by
    have ih := places_mem q n
    unfold places
    by_cases c : mk (q n).key ∈ (places q n).map (·.1)
    · rw [upd_keys _ _ _ c, ih]
      constructor
      · rintro ⟨j, hj, e⟩; exact ⟨j, by omega, e⟩
      · rintro ⟨j, hj, e⟩
        by_cases hn : j = n
        · subst hn; rw [e]; exact (ih _).1 c
        · exact ⟨j, by omega, e⟩
    · rw [upd_fresh _ _ _ c]
      simp only [List.map_append, List.mem_append, ih, List.map_cons, List.map_nil, List.mem_singleton]
      constructor
      · rintro (⟨j, hj, e⟩ | e)
        · exact ⟨j, by omega, e⟩
        · exact ⟨n, by omega, e⟩
      · rintro ⟨j, hj, e⟩
        by_cases hn : j = n
        · subst hn; exact .inr e
        · exact .inl ⟨j, by omega, e⟩

theorem places_le (q : Nat → PD) : ∀ n, (places q n).length ≤ n
  | 0 => by simp [places]
  | n + 1 => by
    have ih := places_le q n
    unfold places
    by_cases c : mk (q n).key ∈ (places q n).map (·.1)
    · have := congrArg List.length (upd_keys _ _ n c); simp at this; omega
    · rw [upd_fresh _ _ _ c]; simp; omega
theorem places_dup (q : Nat → PD) : ∀ n, (∃ i j, j < i ∧ i < n ∧ mk (q j).key = mk (q i).key) → (places q n).length < n
  | 0, h => by obtain ⟨i, j, _, h, _⟩ := h; omega
  | n + 1, h => by
    obtain ⟨i, j, h1, h2, h3⟩ := h
    unfold places
    by_cases c : mk (q n).key ∈ (places q n).map (·.1)
    · have := congrArg List.length (upd_keys _ _ n c); simp at this
      have := places_le q n; omega
    · rw [upd_fresh _ _ _ c]; simp
      refine places_dup q n ⟨i, j, h1, ?_, h3⟩
      by_cases hi : i = n
      · subst hi; exact absurd ((places_mem q i _).2 ⟨j, h1, h3.symm⟩) c
      · omega
theorem places_all (q : Nat → PD) : ∀ n, (∀ i j, j < i → i < n → mk (q j).key ≠ mk (q i).key) → places q n = (List.range n).map fun i => (mk (q i).key, i)
  | 0, _ => rfl
  | n + 1, h => by
    have ih := places_all q n fun i j h1 h2 => h i j h1 (by omega)
    unfold places
    rw [upd_fresh _ _ _ (fun c => by obtain ⟨j, h1, h2⟩ := (places_mem q n _).1 c; exact h n j h1 (by omega) h2.symm), ih, List.range_succ, List.map_append]; rfl
end Go.Proofs.YtiidepafifodjabGreat
