import Derived.Test.YtiidepafifodjabTabI
import Derived.Deep.Slices
/-! Tables: where a key is found; how far the keys 1, 2, 3 .. go. -/
namespace Go.Proofs.Ytiidepafifodjab
open Go.RowKit

/-- the first place of a key -/
def fnd (q : Nat → PD) (m : Mk) : Nat → Option Nat
  | 0 => none
  | n + 1 => match fnd q m n with
    | some i => some i
    | none => if mk (q n).key = m then some n else none

theorem fnd_succ (q : Nat → PD) (m : Mk) (n : Nat) : fnd q m (n + 1) = match fnd q m n with
    | some i => some i
    | none => if mk (q n).key = m then some n else none := rfl
theorem fnd_none {q : Nat → PD} {m : Mk} : ∀ {n : Nat}, (∀ i, i < n → mk (q i).key ≠ m) → fnd q m n = none
  | 0, _ => rfl
  | n + 1, h => by
    unfold fnd
    rw [fnd_none fun i hi => h i (by omega)]
    simp [h n (by omega)]
theorem fnd_some {q : Nat → PD} {m : Mk} {i : Nat} (he : mk (q i).key = m) (hl : ∀ j, j < i → mk (q j).key ≠ m) : ∀ {n : Nat}, i < n → fnd q m n = some i
  | 0, h => by omega
  | n + 1, h => by
    unfold fnd
    by_cases c : i = n
    · subst c
      rw [fnd_none hl]; simp [he]
    · rw [fnd_some he hl (show i < n by omega)]
theorem fnd_at {q : Nat → PD} {m : Mk} : ∀ {n i : Nat}, fnd q m n = some i → i < n ∧ mk (q i).key = m
  | 0, _, h => by simp [fnd] at h
  | n + 1, i, h => by
    unfold fnd at h
    cases c : fnd q m n with
    | some j =>
      rw [c] at h
      simp at h
      subst h
      have := fnd_at c
      exact ⟨by omega, this.2⟩
    | none =>
      rw [c] at h
      simp at h
      obtain ⟨h1, rfl⟩ := h
      exact ⟨by omega, h1⟩
theorem fnd_no {q : Nat → PD} {m : Mk} : ∀ {n : Nat}, fnd q m n = none → ∀ i, i < n → mk (q i).key ≠ m
  | 0, _, i, hi => by omega
  | n + 1, h, i, hi => by
    unfold fnd at h
    cases c : fnd q m n with
    | some j => rw [c] at h; simp at h
    | none =>
      rw [c] at h
      simp at h
      by_cases e : i = n
      · subst e; exact h
      · exact fnd_no c i (by omega)

theorem idx_app : ∀ (L L' : List (Mk × Nat)) (m : Mk), idx (L ++ L') m = match idx L m with
    | some p => some p
    | none => (idx L' m).map fun p => (p.1 + L.length, p.2)
  | [], L', m => by simp [idx]
  | (m', j) :: L, L', m => by
    by_cases c : m = m'
    · simp [idx, c]
    · simp only [List.cons_append, idx, if_neg c, idx_app L L' m]
      cases idx L m with
      | some p => rfl
      | none => simp; cases idx L' m <;> simp; omega

theorem idx_places (q : Nat → PD) (m : Mk) : ∀ n, idx ((List.range n).map fun i => (mk (q i).key, i)) m = (fnd q m n).map fun i => (i, i)
  | 0 => rfl
  | n + 1 => by
    rw [List.range_succ, List.map_append, idx_app, idx_places q m n, fnd_succ]
    cases fnd q m n with
    | some i => rfl
    | none =>
      by_cases c : m = mk (q n).key
      · simp [idx, c]
      · simp [idx, c, Ne.symm c]
theorem idx_ok {n : Nat} {t : Int} {q : Nat → PD} (h : TabOk n t q) (m : Mk) : idx (places q n) m = (fnd q m n).map fun i => (i, i) := by
  rw [places_all q n h.key, idx_places]

theorem kv_f {x : VD} (h : x.f < 2 ^ 64) : (kv x).f < 2 ^ 64 := by
  unfold kv
  (repeat' split) <;> first | exact h | (show (0 : Nat) < 2 ^ 64; decide)
theorem kv_s {x : VD} (h : x.s.size ≤ maxLen) : (kv x).s.size ≤ maxLen := by
  unfold kv
  (repeat' split) <;> first | exact h | (show (0 : Nat) ≤ _; omega)

theorem kOk_kv {x : VD} (h : kc x = 0) : kOk (kv x) = true := by
  unfold kc at h
  by_cases h1 : x.ok = false
  · rw [if_pos h1] at h; omega
  rw [if_neg h1] at h
  by_cases h2 : x.k = 0
  · rw [if_pos h2] at h; omega
  rw [if_neg h2] at h
  have h1' : x.ok = true := by simpa using h1
  by_cases h3 : x.k = 3
  · rw [if_pos h3] at h
    by_cases h4 : FloatKind.f64.format.order x.f x.f ≠ some .eq
    · rw [if_pos h4] at h; omega
    · unfold kv
      rw [if_neg h1, if_neg h2, if_pos h3, if_neg h4]
      have h4' : FloatKind.f64.format.order x.f x.f = some .eq := by simpa using h4
      cases h5 : whB x.f
      · simp only [Bool.false_eq_true, if_false]
        have o : okB 3 0 x.f ⟨#[]⟩ 0 = true := by simp [okB, ueB, usB, se]
        simp [kOk, kc, kv, o, h4', h5]
      · simp only [if_true]
        have o : ∀ n, okB 2 n 0 ⟨#[]⟩ 0 = true := fun n => by simp [okB, ueB, usB, se, fz, order00]
        simp [kOk, kc, kv, o]
  · have : kv x = x := by unfold kv; rw [if_neg h1, if_neg h2, if_neg h3]
    rw [this]
    simp [kOk, kc, kv, h1', h2, h3]

/-! how far the keys go -/
def iv (i : Int) : VD := ⟨2, i, 0, ⟨#[]⟩, 0⟩
def pres (q : Nat → PD) (n : Nat) (i : Nat) : Prop := ∃ j, j < n ∧ mk (q j).key = mk (iv (i : Int))
structure LenIs (q : Nat → PD) (n r : Nat) : Prop where
  all : ∀ i, i < r → pres q n (i + 1)
  stop : ¬ pres q n (r + 1)
theorem LenIs.one {q : Nat → PD} {n r s : Nat} (h : LenIs q n r) (k : LenIs q n s) : r = s := by
  rcases Nat.lt_trichotomy r s with c | c | c
  · exact absurd (k.all r c) h.stop
  · exact c
  · exact absurd (h.all s c) k.stop
theorem pigeon : ∀ (n m : Nat) (f : Nat → Nat), (∀ i, i < m → f i < n) → (∀ i j, i < j → j < m → f i ≠ f j) → m ≤ n
  | 0, m, f, h, _ => by
    refine Nat.le_of_not_lt fun c => ?_
    have := h 0 c; omega
  | n + 1, m, f, h, hi => by
    by_cases c : ∃ i, i < m ∧ f i = n
    · obtain ⟨i0, h0, e0⟩ := c
      have := pigeon n (m - 1) (fun i => if i < i0 then f i else f (i + 1)) (fun i him => by
        by_cases c : i < i0
        · simp only [if_pos c]
          have h1 := h i (by omega)
          have h2 := hi i i0 c h0
          omega
        · simp only [if_neg c]
          have h1 := h (i + 1) (by omega)
          have h2 := hi i0 (i + 1) (by omega) (by omega)
          omega) (fun i j hij hjm => by
        by_cases c : i < i0 <;> by_cases d : j < i0
        · simp only [if_pos c, if_pos d]; exact hi i j hij (by omega)
        · simp only [if_pos c, if_neg d]; exact hi i (j + 1) (by omega) (by omega)
        · omega
        · simp only [if_neg c, if_neg d]; exact hi (i + 1) (j + 1) (by omega) (by omega))
      omega
    · have := pigeon n m f (fun i him => by
        have h1 := h i him
        have h2 : f i ≠ n := fun e => c ⟨i, him, e⟩
        omega) hi
      omega
theorem pres_le {q : Nat → PD} {n r : Nat} (h : ∀ i, i < r → pres q n (i + 1)) : r ≤ n := by
  obtain ⟨f, hf⟩ := Deep.choose_lt (α := Nat) (n := r) (p := fun i j => j < n ∧ mk (q j).key = mk (iv ((i + 1 : Nat) : Int))) h
  refine pigeon n r f (fun i hi => (hf i hi).1) fun i j hij hj e => ?_
  have h1 := (hf i (by omega)).2
  have h2 := (hf j hj).2
  rw [e, h2] at h1
  simp [mk, iv] at h1
  omega
end Go.Proofs.Ytiidepafifodjab
