import Derived.Test.YtiidepafifodjaaPutF
import Derived.Test.YtiidepafifodjaaTabT
import Derived.Test.YtiidepafifodjaaAfterS
/-! FnTables: a table that is what a list of ints says. -/
namespace Go.Proofs.Ytiidepafifodjaa
open Go.RowKit

theorem iv_mk {a b : Int} : mk (iv a) = mk (iv b) ↔ a = b := by simp [mk, iv]
theorem ivOk (a : Int) : (iv a).ok = true := by simp [VD.ok, iv, okB, ueB, usB, se, fz, order00]
theorem iv_kc (a : Int) : kc (iv a) = 0 := by
  have h := ivOk a
  unfold kc
  rw [h]
  simp [iv]
theorem iv_kv (a : Int) : kv (iv a) = iv a := by
  have h := ivOk a
  unfold kv
  rw [h]
  simp [iv]
theorem iv_kOk (a : Int) : kOk (iv a) = true := by simp [kOk, iv_kc, iv_kv]
theorem iv_f (a : Int) : (iv a).f < 2 ^ 64 := by show 0 < 2 ^ 64; decide
theorem vz_ok : vz.ok = true := by simp [VD.ok, vz, okB, ueB, usB, se, fz, order00]

/-- a valid table, said without its loop -/
theorem TabOk.turns {n : Nat} {t : Int} {q : Nat → PD} (h : TabOk n t q) : ∀ j, j < n → lastT q j < (q j).turn ∧ (q j).turn ≤ t := fun j hj => by
  have := h.row j hj
  simp only [rowOkB, Bool.and_eq_true, decide_eq_true_eq] at this
  exact ⟨this.1.2, this.2⟩
theorem TabOk.pok {n : Nat} {t : Int} {q : Nat → PD} (h : TabOk n t q) : ∀ j, j < n → pOkB (q j) = true := fun j hj => by
  have := h.row j hj
  simp only [rowOkB, Bool.and_eq_true, decide_eq_true_eq] at this
  exact this.1.1
theorem TabOk.pos {n : Nat} {t : Int} {q : Nat → PD} (h : TabOk n t q) : ∀ j, j < n → 0 < (q j).turn
  | 0, hj => (h.turns 0 hj).1
  | j + 1, hj => by
    have h1 := h.pos j (by omega)
    have h2 : (q j).turn < (q (j + 1)).turn := (h.turns (j + 1) hj).1
    omega
theorem TabOk.asc {n : Nat} {t : Int} {q : Nat → PD} (h : TabOk n t q) (i : Nat) : ∀ j, i < j → j < n → (q i).turn < (q j).turn
  | 0, hi, _ => by omega
  | j + 1, hi, hj => by
    have h2 : (q j).turn < (q (j + 1)).turn := (h.turns (j + 1) hj).1
    by_cases c : i = j
    · subst c; exact h2
    · have := h.asc i j (by omega) (by omega); omega
theorem tabOk_of {n : Nat} {t : Int} {q : Nat → PD} (nn : n ≤ 500) (t0 : 0 ≤ t) (t1 : t ≤ 1000000000000) (pok : ∀ j, j < n → pOkB (q j) = true) (pos : ∀ j, j < n → 0 < (q j).turn ∧ (q j).turn ≤ t) (asc : ∀ i j, i < j → j < n → (q i).turn < (q j).turn) (key : ∀ i j, j < i → i < n → mk (q j).key ≠ mk (q i).key) : TabOk n t q := by
  refine ⟨nn, t0, t1, fun i hi => ?_, key⟩
  simp only [rowOkB, Bool.and_eq_true, decide_eq_true_eq]
  refine ⟨⟨pok i hi, ?_⟩, (pos i hi).2⟩
  cases i with
  | zero => exact (pos 0 hi).1
  | succ i => exact asc i (i + 1) (by omega) hi

abbrev km (x : VD) : Mk := mk x
/-- the table's pairs are those of a list of keys and values -/
structure IsT (n : Nat) (t : Int) (q : Nat → PD) (K V : Nat → Int) : Prop where
  ok : TabOk n t q
  kk : ∀ i, i < n → (q i).key = iv (K i)
  vv : ∀ i, i < n → (q i).val = iv (V i)

theorem IsT.inj {n : Nat} {t : Int} {q : Nat → PD} {K V : Nat → Int} (h : IsT n t q K V) {i j : Nat} (hi : i < n) (hj : j < n) (e : K i = K j) : i = j := by
  rcases Nat.lt_trichotomy i j with c | c | c
  · exact absurd (by rw [h.kk i hi, h.kk j hj, e]) (h.ok.key j i c hj)
  · exact c
  · exact absurd (by rw [h.kk i hi, h.kk j hj, e]) (h.ok.key i j c hi)
theorem IsT.wf {n : Nat} {t : Int} {q : Nat → PD} {K V : Nat → Int} (h : IsT n t q K V) : ∀ i, i < n → (q i).wf := fun i hi => by
  have h1 := h.ok.pos i hi
  have h2 := (h.ok.turns i hi).2
  have h3 := h.ok.t1
  refine ⟨?_, ?_, ?_, ?_, by omega, by omega⟩
  · rw [h.kk i hi]; exact Nat.zero_le _
  · rw [h.vv i hi]; exact Nat.zero_le _
  · rw [h.kk i hi]; exact iv_f _
  · rw [h.vv i hi]; exact iv_f _
theorem IsT.found {n : Nat} {t : Int} {q : Nat → PD} {K V : Nat → Int} (h : IsT n t q K V) {j : Nat} {k : Int} (hj : j < n) (e : K j = k) : fnd q (km (iv k)) n = some j :=
  fnd_some (by rw [h.kk j hj, e]) (fun i hi => by
    rw [h.kk i (by omega)]
    intro c
    have := h.inj (i := i) (j := j) (by omega) hj (by rw [e]; exact iv_mk.1 c)
    omega) hj
theorem IsT.notfound {n : Nat} {t : Int} {q : Nat → PD} {K V : Nat → Int} (h : IsT n t q K V) {k : Int} (hk : ∀ j, j < n → K j ≠ k) : fnd q (km (iv k)) n = none :=
  fnd_none fun i hi => by rw [h.kk i hi]; exact fun c => hk i hi (iv_mk.1 c)

def upF (f : Nat → Int) (n : Nat) (a : Int) : Nat → Int := fun j => if j = n then a else f j
def rmF (f : Nat → Int) (n : Nat) : Nat → Int := fun j => if j < n then f j else f (j + 1)

theorem pOk_iv (a b t : Int) : pOkB ⟨iv a, iv b, t⟩ = true := by
  have h := ivOk b
  simp only [pOkB, iv_kOk, h]
  simp [iv]

theorem putsays {n : Nat} {t : Int} {q : Nat → PD} {K V : Nat → Int} (h : IsT n t q K V) {k : Int} {v : VD} (hv : v.ok = true) {D : TD} (hp : PutSays n t q (iv k) v D) : D = putD n t q (iv k) v := by
  rcases hp with ⟨_, _, _, hD⟩ | ⟨hno, _⟩
  · rw [iv_kv] at hD; exact hD
  · exact absurd ⟨h.ok, iv_kc k, hv⟩ hno

/-- a key that is new -/
theorem IsT.add {n : Nat} {t : Int} {q : Nat → PD} {K V : Nat → Int} (h : IsT n t q K V) {k c : Int} (hn : n < 500) (ht : t < 1000000000000) (hk : ∀ j, j < n → K j ≠ k) {D : TD} (hp : PutSays n t q (iv k) (iv c) D) :
    D.n = n + 1 ∧ D.t = t + 1 ∧ IsT D.n D.t D.q (upF K n k) (upF V n c) := by
  have hD := putsays h (ivOk c) hp
  unfold putD at hD
  rw [h.notfound hk] at hD
  simp only at hD
  rw [if_neg (by simp [iv]), if_pos ⟨hn, ht⟩] at hD
  subst hD
  refine ⟨rfl, rfl, ?_, fun i hi => ?_, fun i hi => ?_⟩
  · have t0 := h.ok.t0
    show TabOk (n + 1) (t + 1) (addP q n ⟨iv k, iv c, t + 1⟩)
    refine tabOk_of (by omega) (by omega) (by omega) (fun j hj => ?_) (fun j hj => ?_) (fun i j hij hj => ?_) (fun i j hij hi => ?_)
    · unfold addP
      split
      · exact pOk_iv _ _ _
      · exact h.ok.pok j (by omega)
    · unfold addP
      split
      · exact ⟨by show 0 < t + 1; omega, by show t + 1 ≤ t + 1; omega⟩
      · have h1 := h.ok.pos j (by omega)
        have h2 := (h.ok.turns j (by omega)).2
        exact ⟨h1, by omega⟩
    · unfold addP
      rw [if_neg (show i ≠ n by omega)]
      split
      · have h2 := (h.ok.turns i (by omega)).2
        show _ < t + 1
        omega
      · exact h.ok.asc i j hij (by omega)
    · unfold addP
      rw [if_neg (show j ≠ n by omega)]
      split
      · rw [h.kk j (by omega)]
        exact fun c => hk j (by omega) (iv_mk.1 c)
      · exact h.ok.key i j hij (by omega)
  · have hi' : i < n + 1 := hi
    show (addP q n ⟨iv k, iv c, t + 1⟩ i).key = iv (upF K n k i)
    unfold addP upF
    split
    · rfl
    · exact h.kk i (by omega)
  · have hi' : i < n + 1 := hi
    show (addP q n ⟨iv k, iv c, t + 1⟩ i).val = iv (upF V n c i)
    unfold addP upF
    split
    · rfl
    · exact h.vv i (by omega)

/-- a key that is there -/
theorem IsT.set {n : Nat} {t : Int} {q : Nat → PD} {K V : Nat → Int} (h : IsT n t q K V) {k c : Int} {j : Nat} (hj : j < n) (e : K j = k) {D : TD} (hp : PutSays n t q (iv k) (iv c) D) :
    D.n = n ∧ D.t = t ∧ IsT D.n D.t D.q K (upF V j c) := by
  have hD := putsays h (ivOk c) hp
  unfold putD at hD
  rw [h.found hj e] at hD
  simp only at hD
  rw [if_neg (by simp [iv])] at hD
  subst hD
  have ht : ∀ i, (setV q j (iv c) i).turn = (q i).turn := fun i => by
    unfold setV
    split
    · rename_i he; rw [he]
    · rfl
  have hk : ∀ i, (setV q j (iv c) i).key = (q i).key := fun i => by
    unfold setV
    split
    · rename_i he; rw [he]
    · rfl
  refine ⟨rfl, rfl, ?_, fun i hi => ?_, fun i hi => ?_⟩
  · show TabOk n t (setV q j (iv c))
    refine tabOk_of h.ok.nn h.ok.t0 h.ok.t1 (fun i hi => ?_) (fun i hi => ?_) (fun i l hij hl => ?_) (fun i l hij hi => ?_)
    · unfold setV
      split
      · rw [h.kk j hj]; exact pOk_iv _ _ _
      · exact h.ok.pok i hi
    · rw [ht]; exact ⟨h.ok.pos i hi, (h.ok.turns i hi).2⟩
    · rw [ht, ht]; exact h.ok.asc i l hij hl
    · rw [hk, hk]; exact h.ok.key i l hij hi
  · show (setV q j (iv c) i).key = _
    rw [hk]; exact h.kk i hi
  · show (setV q j (iv c) i).val = iv (upF V j c i)
    unfold setV upF
    split
    · rfl
    · exact h.vv i hi

/-- a key that is taken out -/
theorem IsT.del {n : Nat} {t : Int} {q : Nat → PD} {K V : Nat → Int} (h : IsT n t q K V) {k : Int} {j : Nat} (hj : j < n) (e : K j = k) {D : TD} (hp : PutSays n t q (iv k) vz D) :
    D.n = n - 1 ∧ D.t = t ∧ IsT D.n D.t D.q (rmF K j) (rmF V j) := by
  have hD := putsays h vz_ok hp
  unfold putD at hD
  rw [h.found hj e] at hD
  simp only at hD
  rw [if_pos (show vz.k = 0 from rfl)] at hD
  subst hD
  have hr : ∀ i, rmv q j i = q (if i < j then i else i + 1) := fun i => by unfold rmv; split <;> rfl
  refine ⟨rfl, rfl, ?_, fun i hi => ?_, fun i hi => ?_⟩
  · show TabOk (n - 1) t (rmv q j)
    have nn := h.ok.nn
    refine tabOk_of (by omega) h.ok.t0 h.ok.t1 (fun i hi => ?_) (fun i hi => ?_) (fun i l hij hl => ?_) (fun i l hij hi => ?_)
    · rw [hr]; exact h.ok.pok _ (by split <;> omega)
    · rw [hr]; exact ⟨h.ok.pos _ (by split <;> omega), (h.ok.turns _ (by split <;> omega)).2⟩
    · rw [hr, hr]; exact h.ok.asc _ _ (by split <;> split <;> omega) (by split <;> omega)
    · rw [hr, hr]; exact h.ok.key _ _ (by split <;> split <;> omega) (by split <;> omega)
  · have hi' : i < n - 1 := hi
    show (rmv q j i).key = iv (rmF K j i)
    unfold rmv rmF
    split
    · exact h.kk i (by omega)
    · exact h.kk (i + 1) (by omega)
  · have hi' : i < n - 1 := hi
    show (rmv q j i).val = iv (rmF V j i)
    unfold rmv rmF
    split
    · exact h.vv i (by omega)
    · exact h.vv (i + 1) (by omega)

/-- a key that isn't there is taken out -/
theorem IsT.keep {n : Nat} {t : Int} {q : Nat → PD} {K V : Nat → Int} (h : IsT n t q K V) {k : Int} (hk : ∀ j, j < n → K j ≠ k) {D : TD} (hp : PutSays n t q (iv k) vz D) :
    D.n = n ∧ D.t = t ∧ IsT D.n D.t D.q K V := by
  have hD := putsays h vz_ok hp
  unfold putD at hD
  rw [h.notfound hk] at hD
  simp only at hD
  rw [if_pos (show vz.k = 0 from rfl)] at hD
  subst hD
  exact ⟨rfl, rfl, h⟩

theorem IsT.nil (q : Nat → PD) (K V : Nat → Int) : IsT 0 0 q K V := ⟨⟨by omega, by omega, by omega, fun i hi => absurd hi (Nat.not_lt_zero i), fun i j _ hi => absurd hi (Nat.not_lt_zero i)⟩, fun i hi => absurd hi (Nat.not_lt_zero i), fun i hi => absurd hi (Nat.not_lt_zero i)⟩

theorem IsT.after {n : Nat} {t : Int} {q : Nat → PD} {K V : Nat → Int} (h : IsT n t q K V) {j : Nat} (hj : j < n) {f : Bool} {p : PD} (ha : AfterSays n t q (lastT q j) f p) : f = true ∧ p = q j := by
  have hl : ∀ i, i < j → (q i).turn ≤ lastT q j := fun i hi => by
    cases j with
    | zero => omega
    | succ j =>
      show (q i).turn ≤ (q j).turn
      by_cases c : i = j
      · subst c; exact Int.le_refl _
      · have := h.ok.asc i j (by omega) (by omega); omega
  have hb := (h.ok.turns j hj).1
  rcases ha with ⟨_, ha⟩ | ⟨hno, _⟩
  · rcases ha with ⟨rfl, k, h1, rfl, h3, h4⟩ | ⟨_, _, h3⟩
    · rcases Nat.lt_trichotomy k j with c | c | c
      · have := hl k c; omega
      · subst c; exact ⟨rfl, rfl⟩
      · exact absurd hb (h4 j c)
    · exact absurd hb (h3 j hj)
  · exact absurd h.ok hno
theorem IsT.after_end {n : Nat} {t : Int} {q : Nat → PD} {K V : Nat → Int} (h : IsT n t q K V) {f : Bool} {p : PD} (ha : AfterSays n t q (lastT q n) f p) : f = false := by
  have hl : ∀ i, i < n → (q i).turn ≤ lastT q n := fun i hi => by
    cases n with
    | zero => omega
    | succ j =>
      show (q i).turn ≤ (q j).turn
      by_cases c : i = j
      · subst c; exact Int.le_refl _
      · have := h.ok.asc i j (by omega) (by omega); omega
  rcases ha with ⟨_, ha⟩ | ⟨hno, _⟩
  · rcases ha with ⟨_, k, h1, _, h3, _⟩ | ⟨rfl, _, _⟩
    · have := hl k h1; omega
    · rfl
  · exact absurd h.ok hno
theorem IsT.get {n : Nat} {t : Int} {q : Nat → PD} {K V : Nat → Int} (h : IsT n t q K V) {k : Int} {v : VD} (hg : GetSays n t q (iv k) v) : (∃ j, j < n ∧ K j = k ∧ v = iv (V j)) ∨ ((∀ j, j < n → K j ≠ k) ∧ v = vz) := by
  rcases hg with ⟨_, hv⟩ | ⟨hno, _⟩
  · rw [if_pos (iv_kc k), iv_kv] at hv
    unfold gt at hv
    by_cases c : ∃ j, j < n ∧ K j = k
    · obtain ⟨j, hj, e⟩ := c
      rw [h.found hj e] at hv
      exact .inl ⟨j, hj, e, by rw [hv]; exact h.vv j hj⟩
    · have c' : ∀ j, j < n → K j ≠ k := fun j hj e => c ⟨j, hj, e⟩
      rw [h.notfound c'] at hv
      exact .inr ⟨c', hv⟩
  · exact absurd h.ok hno
theorem IsT.pres {n : Nat} {t : Int} {q : Nat → PD} {K V : Nat → Int} (h : IsT n t q K V) (i : Nat) : pres q n i ↔ ∃ j, j < n ∧ K j = (i : Int) := by
  constructor
  · rintro ⟨j, hj, e⟩
    rw [h.kk j hj] at e
    exact ⟨j, hj, iv_mk.1 e⟩
  · rintro ⟨j, hj, e⟩
    exact ⟨j, hj, by rw [h.kk j hj, e]⟩
theorem IsT.len {n : Nat} {t : Int} {q : Nat → PD} {K V : Nat → Int} (h : IsT n t q K V) {r : Nat} {e : Ending} (hl : LenSays n t q e) (hall : ∀ i, i < r → ∃ j, j < n ∧ K j = ((i + 1 : Nat) : Int)) (hstop : ¬ ∃ j, j < n ∧ K j = ((r + 1 : Nat) : Int)) : e = .returned (.int .i64 (r : Int)) := by
  obtain ⟨s, rfl, hs⟩ := hl
  rcases hs with ⟨_, hs⟩ | ⟨hno, _⟩
  · have : LenIs q n r := ⟨fun i hi => (h.pres (i + 1)).2 (hall i hi), fun c => hstop ((h.pres (r + 1)).1 c)⟩
    rw [hs.one this]
  · exact absurd h.ok hno
end Go.Proofs.Ytiidepafifodjaa
