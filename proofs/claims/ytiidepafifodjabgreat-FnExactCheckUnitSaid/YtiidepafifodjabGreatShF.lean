import Derived.Test.YtiidepafifodjabGreatSpM
import Derived.Test.YtiidepafifodjabGreatSpP
import Derived.Test.YtiidepafifodjabGreatHas
/-! What the form of a node says: plain. -/
namespace Go.Proofs.YtiidepafifodjabGreat

theorem bare_rn {d : ND} {o n f s : Bool} {r : Int} (h : bareB d o n f s r = true) : (d.rn : Int) = r := by
  unfold bareB bareG at h
  simp only [Bool.and_eq_true, beq_iff_eq] at h
  exact h.2
theorem exs_kid {nd : Nat → ND} {m lo hi i : Nat} (h : exsB nd m lo hi = true) (h1 : lo ≤ i) (h2 : i < hi) : exK (kidK nd m i) = true := allB_true.1 h i h1 h2
theorem exK_two {k : Int} (h : exK k = true) : k ≠ 2 := by
  unfold exK at h
  simp at h
  omega

theorem sh_kids {nd : Nat → ND} {m : Nat} (h : shB nd m = true) : (nd m).kn ≤ 200 ∧ ∀ j, j < (nd m).kn → 0 ≤ (nd m).c j ∧ (nd m).c j < m := by
  unfold shB at h
  simp only [Bool.and_eq_true] at h
  obtain ⟨⟨h1, h2⟩, _⟩ := h
  refine ⟨by simp at h1; omega, fun j hj => ?_⟩
  have := allB_true.1 h2 j (Nat.zero_le _) hj
  simp at this
  omega
theorem kidK_eq {nd : Nat → ND} {m j : Nat} (h : ∀ j, j < (nd m).kn → 0 ≤ (nd m).c j ∧ (nd m).c j < m) (hj : j < (nd m).kn) : kidK nd m j = (nd ((nd m).c j).toNat).k := by
  unfold kidK
  rw [if_pos hj, if_pos (h j hj)]

/-- what is known of a node of good form -/
structure ShF (nd : Nat → ND) (m : Nat) : Prop where
  kids : ∀ j, j < (nd m).kn → 0 ≤ (nd m).c j ∧ (nd m).c j < m
  kn : (nd m).kn ≤ 200
  kind : (1 ≤ (nd m).k ∧ (nd m).k ≤ 14) ∨ (20 ≤ (nd m).k ∧ (nd m).k ≤ 38)
  one : (nd m).k = 26 ∨ (nd m).k = 27 ∨ (nd m).k = 36 ∨ (nd m).k = 7 → (nd m).rn = 1
  try2 : (nd m).k = 12 → (nd m).rn = 2
  refs : (nd m).rn ≠ 0 → (nd m).k = 2 ∨ (nd m).k = 7 ∨ (nd m).k = 8 ∨ (nd m).k = 12 ∨ (nd m).k = 26 ∨ (nd m).k = 27 ∨ (nd m).k = 36
  two : (nd m).k = 6 ∨ (nd m).k = 8 ∨ (nd m).k = 12 → (nd m).kn = 2
  four : (nd m).k = 7 → (nd m).kn = 4
  leaf : (nd m).k = 9 ∨ (nd m).k = 10 ∨ (nd m).k = 26 ∨ (nd m).k = 27 ∨ (nd m).k = 36 ∨ (nd m).k = 37 → (nd m).kn = 0
  lets : (nd m).k ≠ 1 → ∀ j, j < (nd m).kn → (nd ((nd m).c j).toNat).k ≠ 2

theorem blk_two {nd : Nat → ND} {m : Nat} (h : blkB nd m = true) {j : Nat} (hj : j + 1 = (nd m).kn) : kidK nd m j ≠ 2 := by
  unfold blkB at h
  simp only [Bool.and_eq_true, beq_iff_eq] at h
  have : (nd m).kn - 1 = j := by omega
  rw [this] at h
  omega

set_option maxHeartbeats 4000000 in
theorem sh_facts {nd : Nat → ND} {m : Nat} (h : shB nd m = true) : ShF nd m := by
  obtain ⟨hkn, hk⟩ := sh_kids h
  have hke : ∀ j, j < (nd m).kn → kidK nd m j = (nd ((nd m).c j).toNat).k := fun j hj => kidK_eq hk hj
  have h3 : (if stK (nd m).k then decide (1 ≤ (nd m).l) && decide ((nd m).l ≤ 100000) && stB nd m else (nd m).l == 0 && epB nd m) = true := by
    unfold shB at h
    rw [Bool.and_eq_true] at h
    exact h.2
  clear h
  by_cases hs : stK (nd m).k = true
  · rw [if_pos hs, Bool.and_eq_true] at h3
    have h := h3.2
    clear h3
    have hr : 1 ≤ (nd m).k ∧ (nd m).k ≤ 14 := by unfold stK at hs; simp at hs; exact hs
    unfold stB at h
    rcases (show (nd m).k = 1 ∨ (nd m).k = 2 ∨ (nd m).k = 3 ∨ (nd m).k = 4 ∨ (nd m).k = 5 ∨ (nd m).k = 6 ∨ (nd m).k = 7 ∨ (nd m).k = 8 ∨ (nd m).k = 9 ∨ (nd m).k = 10 ∨ (nd m).k = 11 ∨ (nd m).k = 12 ∨ (nd m).k = 13 ∨ (nd m).k = 14 by omega) with e | e | e | e | e | e | e | e | e | e | e | e | e | e <;> (simp only [e] at h; simp only [Int.reduceEq, if_true, if_false, Bool.and_eq_true, Bool.or_eq_true, or_false, or_true, beq_iff_eq] at h)
    · have b := bare_rn h.2
      exact ⟨hk, hkn, .inl hr, fun h => by omega, fun h => by omega, fun h => by omega, fun h => by omega, fun h => by omega, fun h => by omega, fun h => absurd e h⟩
    · exact ⟨hk, hkn, .inl hr, fun h => by omega, fun h => by omega, fun h => by omega, fun h => by omega, fun h => by omega, fun h => by omega, fun _ j hj => by rw [← hke j hj]; exact exK_two (exs_kid h.2 (Nat.zero_le _) hj)⟩
    · have b := bare_rn h.1.2
      refine ⟨hk, hkn, .inl hr, fun h => by omega, fun h => by omega, fun h => by omega, fun h => by omega, fun h => by omega, fun h => by omega, fun _ j hj => ?_⟩
      rw [← hke j hj]
      by_cases hj2 : j < (nd m).n.toNat
      · have := allB_true.1 h.1.1.2 j (Nat.zero_le _) hj2
        unfold tgK at this
        simp at this
        omega
      · exact exK_two (exs_kid h.2 (by omega) hj)
    · have b := bare_rn h.2
      refine ⟨hk, hkn, .inl hr, fun h => by omega, fun h => by omega, fun h => by omega, fun h => by omega, fun h => by omega, fun h => by omega, fun _ j hj => ?_⟩
      obtain rfl : j = 0 := by omega
      rw [← hke 0 hj]
      omega
    · have b := bare_rn h.2
      refine ⟨hk, hkn, .inl hr, fun h => by omega, fun h => by omega, fun h => by omega, fun h => by omega, fun h => by omega, fun h => by omega, fun _ j hj => ?_⟩
      rw [← hke j hj]
      have h0 := exK_two (exs_kid (i := 0) h.1.1.2 (Nat.zero_le _) (by omega))
      rcases (show j = 0 ∨ j = 1 ∨ j = 2 by omega) with rfl | rfl | rfl
      · exact h0
      · omega
      · omega
    · have b := bare_rn h.2
      refine ⟨hk, hkn, .inl hr, fun h => by omega, fun h => by omega, fun h => by omega, fun h => by omega, fun h => by omega, fun h => by omega, fun _ j hj => ?_⟩
      rw [← hke j hj]
      rcases (show j = 0 ∨ j + 1 = (nd m).kn by omega) with rfl | hj2
      · exact exK_two (exs_kid (i := 0) h.1.1.2 (Nat.zero_le _) (by omega))
      · exact blk_two h.1.2 hj2
    · have b := bare_rn h.2
      refine ⟨hk, hkn, .inl hr, fun h => by omega, fun h => by omega, fun h => by omega, fun h => by omega, fun h => by omega, fun h => by omega, fun _ j hj => ?_⟩
      rw [← hke j hj]
      rcases (show j < 3 ∨ j + 1 = (nd m).kn by omega) with hj2 | hj2
      · exact exK_two (exs_kid h.1.1.2 (Nat.zero_le _) hj2)
      · exact blk_two h.1.2 hj2
    · have b := bare_rn h.2
      refine ⟨hk, hkn, .inl hr, fun h => by omega, fun h => by omega, fun h => by omega, fun h => by omega, fun h => by omega, fun h => by omega, fun _ j hj => ?_⟩
      rw [← hke j hj]
      rcases (show j = 0 ∨ j + 1 = (nd m).kn by omega) with rfl | hj2
      · exact exK_two (exs_kid (i := 0) h.1.1.2 (Nat.zero_le _) (by omega))
      · exact blk_two h.1.2 hj2
    · have b := bare_rn h.2
      exact ⟨hk, hkn, .inl hr, fun h => by omega, fun h => by omega, fun h => by omega, fun h => by omega, fun h => by omega, fun h => by omega, fun _ j hj => by omega⟩
    · have b := bare_rn h.2
      exact ⟨hk, hkn, .inl hr, fun h => by omega, fun h => by omega, fun h => by omega, fun h => by omega, fun h => by omega, fun h => by omega, fun _ j hj => by omega⟩
    · have b := bare_rn h.2
      exact ⟨hk, hkn, .inl hr, fun h => by omega, fun h => by omega, fun h => by omega, fun h => by omega, fun h => by omega, fun h => by omega, fun _ j hj => by rw [← hke j hj]; exact exK_two (exs_kid h.1 (Nat.zero_le _) hj)⟩
    · have b := bare_rn h.2
      refine ⟨hk, hkn, .inl hr, fun h => by omega, fun h => by omega, fun h => by omega, fun h => by omega, fun h => by omega, fun h => by omega, fun _ j hj => ?_⟩
      rw [← hke j hj]
      rcases (show j = 0 ∨ j + 1 = (nd m).kn by omega) with rfl | hj2
      · omega
      · exact blk_two h.1.2 hj2
    · have b := bare_rn h.2
      refine ⟨hk, hkn, .inl hr, fun h => by omega, fun h => by omega, fun h => by omega, fun h => by omega, fun h => by omega, fun h => by omega, fun _ j hj => ?_⟩
      rw [← hke j hj]
      exact exK_two (exs_kid h.1.2 (Nat.zero_le _) (by omega))
    · have b := bare_rn h.2
      refine ⟨hk, hkn, .inl hr, fun h => by omega, fun h => by omega, fun h => by omega, fun h => by omega, fun h => by omega, fun h => by omega, fun _ j hj => ?_⟩
      obtain rfl : j = 0 := by omega
      rw [← hke 0 hj]
      omega
  · rw [if_neg hs, Bool.and_eq_true] at h3
    have h := h3.2
    clear h3
    unfold epB at h
    have hr : 20 ≤ (nd m).k ∧ (nd m).k ≤ 38 := by
      refine Classical.byContradiction fun hn => ?_
      have hf : ∀ {p : Prop} [Decidable p] {a b : Bool}, ¬ p → (if p then a else b) = true → b = true := fun hp h => by rwa [if_neg hp] at h
      exact absurd (hf (by omega) (hf (by omega) (hf (by omega) (hf (by omega) (hf (by omega) (hf (by omega) (hf (by omega) (hf (by omega) (hf (by omega) (hf (by omega) (hf (by omega) (hf (by omega) h)))))))))))) (by decide)
    rcases (show (nd m).k = 20 ∨ (nd m).k = 21 ∨ (nd m).k = 22 ∨ (nd m).k = 23 ∨ (nd m).k = 24 ∨ (nd m).k = 25 ∨ (nd m).k = 26 ∨ (nd m).k = 27 ∨ (nd m).k = 28 ∨ (nd m).k = 29 ∨ (nd m).k = 30 ∨ (nd m).k = 31 ∨ (nd m).k = 32 ∨ (nd m).k = 33 ∨ (nd m).k = 34 ∨ (nd m).k = 35 ∨ (nd m).k = 36 ∨ (nd m).k = 37 ∨ (nd m).k = 38 by omega) with e | e | e | e | e | e | e | e | e | e | e | e | e | e | e | e | e | e | e <;> (simp only [e] at h; simp only [Int.reduceEq, if_true, if_false, Bool.and_eq_true, or_false, or_true, beq_iff_eq] at h)
    all_goals
      have b := bare_rn h.2
      refine ⟨hk, hkn, .inr hr, fun h => by omega, fun h => by omega, fun h => by omega, fun h => by omega, fun h => by omega, fun h => by omega, fun _ j hj => ?_⟩
    all_goals first
      | omega
      | (rw [← hke j hj]; exact exK_two (exs_kid h.1.2 (Nat.zero_le _) hj))
      | (rw [← hke j hj]; exact exK_two (exs_kid h.1.1.2 (Nat.zero_le _) hj))
      | (rw [← hke j hj]; exact exK_two (exs_kid h.1.1.1.2 (Nat.zero_le _) hj))
      | (obtain rfl : j = 0 := by omega
         rw [← hke 0 hj]
         have h1 := h.1.2
         unfold mnK at h1
         simp at h1
         omega)
end Go.Proofs.YtiidepafifodjabGreat

/-! All faults of a unit: plain. -/
namespace Go.Proofs.YtiidepafifodjabGreat

/-- faults of one code, at fns and nodes -/
def At2 (C U : Nat) (N : Nat → Nat) (bad : Nat → Nat → Prop) (y : FT) : Prop := y.c = C ∧ y.f < U ∧ y.n < N y.f ∧ bad y.f y.n
theorem At2.least {C U : Nat} {N : Nat → Nat} {bad : Nat → Nat → Prop} {f n : Nat} (hC : 0 < C) (h1 : ∀ f', f' < f → ∀ n', n' < N f' → ¬ bad f' n') (h2 : ∀ n', n' < n → ¬ bad f n') (hf : f < U) (hn : n < N f) (hb : bad f n) : Least (At2 C U N bad) ⟨C, f, n⟩ := by
  refine .inr ⟨hC, ⟨rfl, hf, hn, hb⟩, fun y hy => ?_⟩
  obtain ⟨a, b, c, d⟩ := hy
  refine .inr ⟨a.symm, ?_⟩
  by_cases e : y.f < f
  · exact absurd d (h1 _ e _ c)
  · by_cases e2 : y.f = f
    · refine .inr ⟨e2.symm, ?_⟩
      by_cases e3 : y.n < n
      · rw [e2] at d
        exact absurd d (h2 _ e3)
      · exact Nat.le_of_not_lt e3
    · exact .inl (by show f < y.f; omega)
theorem At2.none {C U : Nat} {N : Nat → Nat} {bad : Nat → Nat → Prop} (h : ∀ f, f < U → ∀ n, n < N f → ¬ bad f n) : ∀ y, ¬ At2 C U N bad y := fun _ hy => h _ hy.2.1 _ hy.2.2.1 hy.2.2.2
theorem At2.no {C U : Nat} {N : Nat → Nat} {bad : Nat → Nat → Prop} (h : ∀ y, ¬ At2 C U N bad y) : ∀ f, f < U → ∀ n, n < N f → ¬ bad f n := fun f hf n hn hb => h ⟨C, f, n⟩ ⟨rfl, hf, hn, hb⟩
theorem At2.congr {C U : Nat} {N : Nat → Nat} {bad bad' : Nat → Nat → Prop} (h : ∀ f, f < U → ∀ n, n < N f → (bad f n ↔ bad' f n)) (y : FT) : At2 C U N bad y ↔ At2 C U N bad' y :=
  ⟨fun k => ⟨k.1, k.2.1, k.2.2.1, (h _ k.2.1 _ k.2.2.1).1 k.2.2.2⟩, fun k => ⟨k.1, k.2.1, k.2.2.1, (h _ k.2.1 _ k.2.2.1).2 k.2.2.2⟩⟩

/-- the nodes of the first fns -/
def tot (fn : Nat → FD) : Nat → Nat
  | 0 => 0
  | k + 1 => tot fn k + (fn k).nn
def SizeOk (u : UD) : Prop := 1 ≤ u.n ∧ u.n ≤ 300 ∧ tot u.fn u.n ≤ 3000
def HeadOk (u : UD) (f : Nat) : Prop := ((u.fn f).nn ≠ 0 ∧ (u.fn f).vn ≤ 200 ∧ (u.fn f).un ≤ 200 ∧ 0 ≤ (u.fn f).params ∧ (u.fn f).params ≤ (u.fn f).vn)
  ∧ (0 ≤ (u.fn f).line ∧ (u.fn f).line ≤ 100000 ∧ (u.fn f).name.size ≤ 40 ∧ (f = 0 → (u.fn f).params = 0 ∧ (u.fn f).un = 0))
  ∧ ∀ i, i < (u.fn f).vn → 1 ≤ ((u.fn f).v i).size ∧ ((u.fn f).v i).size ≤ 40
def Bad1 (u : UD) : FT → Prop := At2 1 1 (fun _ => 1) (fun _ _ => ¬ SizeOk u)
def Bad2 (u : UD) : FT → Prop := At2 2 u.n (fun _ => 1) (fun f _ => ¬ HeadOk u f)
def Bad3 (u : UD) : FT → Prop := At2 3 u.n (fun f => (u.fn f).nn) (fun f n => shB (u.fn f).nd n = false)
def Bad4 (u : UD) : FT → Prop := At2 4 u.n (fun f => (u.fn f).nn) (fun f n => (n < (u.fn f).nn - 1 ∧ parP (u.fn f).nd (u.fn f).nn n < 0) ∨ (n = (u.fn f).nn - 1 ∧ ((u.fn f).nd n).k ≠ 1))
def Bad5 (u : UD) : FT → Prop := At2 5 u.n (fun f => (u.fn f).nn) (fun f n => 100 < depP (parP (u.fn f).nd (u.fn f).nn) (u.fn f).nn ((u.fn f).nn - 1) n)
/-- all of them -/
def BadU (u : UD) (y : FT) : Prop := Bad1 u y ∨ Bad2 u y ∨ Bad3 u y ∨ Bad4 u y ∨ Bad5 u y ∨ BadS u y

theorem At2.code {C U : Nat} {N : Nat → Nat} {bad : Nat → Nat → Prop} {y : FT} (h : At2 C U N bad y) : y.c = C := h.1
theorem badS_code {u : UD} {y : FT} (h : BadS u y) : 6 ≤ y.c := by
  rcases h with h | h | h | h <;> (have := h.1; omega)
/-- the size is right -/
structure U1 (u : UD) : Prop where
  size : SizeOk u
/-- fns and forms are right too -/
structure U3 (u : UD) : Prop where
  size : SizeOk u
  head : ∀ f, f < u.n → HeadOk u f
  form : ∀ f, f < u.n → ∀ n, n < (u.fn f).nn → shB (u.fn f).nd n = true
theorem U3.facts {u : UD} (h : U3 u) {f : Nat} (hf : f < u.n) {n : Nat} (hn : n < (u.fn f).nn) : ShF (u.fn f).nd n := sh_facts (h.form f hf n hn)
theorem U3.kids {u : UD} (h : U3 u) {f : Nat} (hf : f < u.n) : KidsIn (u.fn f).nd (u.fn f).nn := fun _ hi j hj => (h.facts hf hi).kids j hj
theorem tot_le (fn : Nat → FD) : ∀ (n k : Nat), k < n → (fn k).nn ≤ tot fn n
  | 0, _, h => by omega
  | n + 1, k, h => by
    unfold tot
    by_cases e : k = n
    · subst e; omega
    · have := tot_le fn n k (by omega); omega
theorem U3.nn {u : UD} (h : U3 u) {f : Nat} (hf : f < u.n) : (u.fn f).nn ≤ 3000 ∧ 0 < (u.fn f).nn := by
  have h1 := tot_le u.fn u.n f hf
  have h2 := h.size.2.2
  have h3 := (h.head f hf).1.1
  omega
/-- the trees are right too -/
structure U5 (u : UD) : Prop extends U3 u where
  tree : ∀ f, f < u.n → TreeOk (u.fn f).nd (u.fn f).nn
theorem u3_of {u : UD} (h1 : ∀ y, ¬ Bad1 u y) (h2 : ∀ y, ¬ Bad2 u y) (h3 : ∀ y, ¬ Bad3 u y) : U3 u := by
  refine ⟨?_, fun f hf => ?_, fun f hf n hn => ?_⟩
  · exact Classical.byContradiction fun h => At2.no h1 0 (by omega) 0 (by omega) h
  · exact Classical.byContradiction fun h => At2.no h2 f hf 0 (by omega) h
  · have := At2.no h3 f hf n hn
    simpa using this
theorem u5_of {u : UD} (h : U3 u) (h4 : ∀ y, ¬ Bad4 u y) : U5 u := by
  refine ⟨h, fun f hf => ⟨(h.nn hf).2, h.kids hf, fun x hx => ?_, ?_⟩⟩
  · have := At2.no h4 f hf x (by omega)
    omega
  · have hp := (h.nn hf).2
    have := At2.no h4 f hf ((u.fn f).nn - 1) (by omega)
    omega
end Go.Proofs.YtiidepafifodjabGreat

/-! Rows of K cells each: made and filled. -/
namespace Go.Proofs.YtiidepafifodjabGreat
open Go.RowKit

/-- cell m of a row of things of K cells each -/
def flK (K : Nat) (c : Nat → Array Value) (m : Nat) : Value := ((c (m / K))[m % K]?).getD undef

theorem flK_at {K : Nat} (c : Nat → Array Value) (k j : Nat) (hj : j < K) : flK K c (k * K + j) = ((c k)[j]?).getD undef := by
  unfold flK
  have h1 : (k * K + j) / K = k := by rw [Nat.mul_comm, Nat.mul_add_div (by omega), Nat.div_eq_of_lt hj, Nat.add_zero]
  have h2 : (k * K + j) % K = j := by rw [Nat.mul_comm, Nat.mul_add_mod, Nat.mod_eq_of_lt hj]
  rw [h1, h2]

theorem rowK {w : World} {B K : Nat} {t : TypeId} {n : Nat} {c : Nat → Array Value} (hc : ∀ i, i < n → (c i).size = K) (h : w.rowIs B t (n * K) (flK K c)) : RowN K B w (some ⟨B, 0, none⟩) n c := fun _ =>
  ⟨B, 0, rfl, Nat.le_refl _, h.lt, fun i hi j hj => by
    have hm : i * K + j < n * K := by
      have : (i + 1) * K ≤ n * K := Nat.mul_le_mul_right K hi
      rw [Nat.add_mul, Nat.one_mul] at this
      omega
    rw [Nat.zero_add, h.cell hm, flK_at c i j hj]
    have : j < (c i).size := by rw [hc i hi]; exact hj
    rw [Array.getElem?_eq_getElem this]; rfl⟩

theorem rowOfC (w : World) (c : Array Value) (t : TypeId) : (w.alloc (.cells c t)).rowIs w.heap.size t c.size (fun i => (c[i]?).getD undef) :=
  World.rowIs_alloc w c t _ fun i hi => by rw [Array.getElem?_eq_getElem hi]; rfl

theorem frS {B blk o : Nat} {a w : World} (h : Below B a w) (hp : B ≤ blk) (v : Value) : Below B a (w.setCell ⟨blk, o, none⟩ v) := h.setCell (p := ⟨blk, o, none⟩) hp v

theorem put1 {w : World} {B : Nat} {t : TypeId} {N : Nat} {f : Nat → Value} (h : w.rowIs B t N f) (k : Nat) (c : Nat → Array Value) (hf : ∀ m, m < k * 1 → f m = flK 1 c m) (v0 : Value) (c' : Nat → Array Value) (h1 : ∀ i, i < k → c' i = c i) (h2 : c' k = #[v0]) :
    ∃ f', (w.setCell ⟨B, k, none⟩ v0).rowIs B t N f' ∧ ∀ m, m < (k + 1) * 1 → f' m = flK 1 c' m := by
  refine ⟨_, (h.set _ _), fun m hm => ?_⟩
  by_cases hlt : m < k * 1
  · have e : flK 1 c' m = flK 1 c m := by unfold flK; rw [h1 (m / 1) (by omega)]
    rw [e, ← hf m hlt]
    (repeat rw [if_neg (by omega)])
  · obtain ⟨j, rfl⟩ : ∃ j, m = k * 1 + j := ⟨m - k * 1, by omega⟩
    have hj : j < 1 := by omega
    rw [flK_at c' k j hj, h2]
    rcases (show j = 0 by omega) with rfl <;> simp
theorem fr1 {w u : World} {B : Nat} (k : Nat) (v0 : Value) (hb : Below B u w) : Below B u (w.setCell ⟨B, k, none⟩ v0) := (hb.setCell (p := ⟨B, k, none⟩) (Nat.le_refl _) v0)

theorem put2 {w : World} {B : Nat} {t : TypeId} {N : Nat} {f : Nat → Value} (h : w.rowIs B t N f) (k : Nat) (c : Nat → Array Value) (hf : ∀ m, m < k * 2 → f m = flK 2 c m) (v0 v1 : Value) (c' : Nat → Array Value) (h1 : ∀ i, i < k → c' i = c i) (h2 : c' k = #[v0, v1]) :
    ∃ f', ((w.setCell ⟨B, k * 2, none⟩ v0).setCell ⟨B, k * 2 + 1, none⟩ v1).rowIs B t N f' ∧ ∀ m, m < (k + 1) * 2 → f' m = flK 2 c' m := by
  refine ⟨_, ((h.set _ _).set _ _), fun m hm => ?_⟩
  by_cases hlt : m < k * 2
  · have e : flK 2 c' m = flK 2 c m := by unfold flK; rw [h1 (m / 2) (by omega)]
    rw [e, ← hf m hlt]
    (repeat rw [if_neg (by omega)])
  · obtain ⟨j, rfl⟩ : ∃ j, m = k * 2 + j := ⟨m - k * 2, by omega⟩
    have hj : j < 2 := by omega
    rw [flK_at c' k j hj, h2]
    rcases (show j = 0 ∨ j = 1 by omega) with rfl | rfl <;> simp
theorem fr2 {w u : World} {B : Nat} (k : Nat) (v0 v1 : Value) (hb : Below B u w) : Below B u ((w.setCell ⟨B, k * 2, none⟩ v0).setCell ⟨B, k * 2 + 1, none⟩ v1) := ((hb.setCell (p := ⟨B, k * 2, none⟩) (Nat.le_refl _) v0).setCell (p := ⟨B, k * 2 + 1, none⟩) (Nat.le_refl _) v1)

theorem put7 {w : World} {B : Nat} {t : TypeId} {N : Nat} {f : Nat → Value} (h : w.rowIs B t N f) (k : Nat) (c : Nat → Array Value) (hf : ∀ m, m < k * 7 → f m = flK 7 c m) (v0 v1 v2 v3 v4 v5 v6 : Value) (c' : Nat → Array Value) (h1 : ∀ i, i < k → c' i = c i) (h2 : c' k = #[v0, v1, v2, v3, v4, v5, v6]) :
    ∃ f', (((((((w.setCell ⟨B, k * 7, none⟩ v0).setCell ⟨B, k * 7 + 1, none⟩ v1).setCell ⟨B, k * 7 + 2, none⟩ v2).setCell ⟨B, k * 7 + 3, none⟩ v3).setCell ⟨B, k * 7 + 4, none⟩ v4).setCell ⟨B, k * 7 + 5, none⟩ v5).setCell ⟨B, k * 7 + 6, none⟩ v6).rowIs B t N f' ∧ ∀ m, m < (k + 1) * 7 → f' m = flK 7 c' m := by
  refine ⟨_, (((((((h.set _ _).set _ _).set _ _).set _ _).set _ _).set _ _).set _ _), fun m hm => ?_⟩
  by_cases hlt : m < k * 7
  · have e : flK 7 c' m = flK 7 c m := by unfold flK; rw [h1 (m / 7) (by omega)]
    rw [e, ← hf m hlt]
    (repeat rw [if_neg (by omega)])
  · obtain ⟨j, rfl⟩ : ∃ j, m = k * 7 + j := ⟨m - k * 7, by omega⟩
    have hj : j < 7 := by omega
    rw [flK_at c' k j hj, h2]
    rcases (show j = 0 ∨ j = 1 ∨ j = 2 ∨ j = 3 ∨ j = 4 ∨ j = 5 ∨ j = 6 by omega) with rfl | rfl | rfl | rfl | rfl | rfl | rfl <;> simp
theorem fr7 {w u : World} {B : Nat} (k : Nat) (v0 v1 v2 v3 v4 v5 v6 : Value) (hb : Below B u w) : Below B u (((((((w.setCell ⟨B, k * 7, none⟩ v0).setCell ⟨B, k * 7 + 1, none⟩ v1).setCell ⟨B, k * 7 + 2, none⟩ v2).setCell ⟨B, k * 7 + 3, none⟩ v3).setCell ⟨B, k * 7 + 4, none⟩ v4).setCell ⟨B, k * 7 + 5, none⟩ v5).setCell ⟨B, k * 7 + 6, none⟩ v6) := (((((((hb.setCell (p := ⟨B, k * 7, none⟩) (Nat.le_refl _) v0).setCell (p := ⟨B, k * 7 + 1, none⟩) (Nat.le_refl _) v1).setCell (p := ⟨B, k * 7 + 2, none⟩) (Nat.le_refl _) v2).setCell (p := ⟨B, k * 7 + 3, none⟩) (Nat.le_refl _) v3).setCell (p := ⟨B, k * 7 + 4, none⟩) (Nat.le_refl _) v4).setCell (p := ⟨B, k * 7 + 5, none⟩) (Nat.le_refl _) v5).setCell (p := ⟨B, k * 7 + 6, none⟩) (Nat.le_refl _) v6)

theorem put8 {w : World} {B : Nat} {t : TypeId} {N : Nat} {f : Nat → Value} (h : w.rowIs B t N f) (k : Nat) (c : Nat → Array Value) (hf : ∀ m, m < k * 8 → f m = flK 8 c m) (v0 v1 v2 v3 v4 v5 v6 v7 : Value) (c' : Nat → Array Value) (h1 : ∀ i, i < k → c' i = c i) (h2 : c' k = #[v0, v1, v2, v3, v4, v5, v6, v7]) :
    ∃ f', ((((((((w.setCell ⟨B, k * 8, none⟩ v0).setCell ⟨B, k * 8 + 1, none⟩ v1).setCell ⟨B, k * 8 + 2, none⟩ v2).setCell ⟨B, k * 8 + 3, none⟩ v3).setCell ⟨B, k * 8 + 4, none⟩ v4).setCell ⟨B, k * 8 + 5, none⟩ v5).setCell ⟨B, k * 8 + 6, none⟩ v6).setCell ⟨B, k * 8 + 7, none⟩ v7).rowIs B t N f' ∧ ∀ m, m < (k + 1) * 8 → f' m = flK 8 c' m := by
  refine ⟨_, ((((((((h.set _ _).set _ _).set _ _).set _ _).set _ _).set _ _).set _ _).set _ _), fun m hm => ?_⟩
  by_cases hlt : m < k * 8
  · have e : flK 8 c' m = flK 8 c m := by unfold flK; rw [h1 (m / 8) (by omega)]
    rw [e, ← hf m hlt]
    (repeat rw [if_neg (by omega)])
  · obtain ⟨j, rfl⟩ : ∃ j, m = k * 8 + j := ⟨m - k * 8, by omega⟩
    have hj : j < 8 := by omega
    rw [flK_at c' k j hj, h2]
    rcases (show j = 0 ∨ j = 1 ∨ j = 2 ∨ j = 3 ∨ j = 4 ∨ j = 5 ∨ j = 6 ∨ j = 7 by omega) with rfl | rfl | rfl | rfl | rfl | rfl | rfl | rfl <;> simp
theorem fr8 {w u : World} {B : Nat} (k : Nat) (v0 v1 v2 v3 v4 v5 v6 v7 : Value) (hb : Below B u w) : Below B u ((((((((w.setCell ⟨B, k * 8, none⟩ v0).setCell ⟨B, k * 8 + 1, none⟩ v1).setCell ⟨B, k * 8 + 2, none⟩ v2).setCell ⟨B, k * 8 + 3, none⟩ v3).setCell ⟨B, k * 8 + 4, none⟩ v4).setCell ⟨B, k * 8 + 5, none⟩ v5).setCell ⟨B, k * 8 + 6, none⟩ v6).setCell ⟨B, k * 8 + 7, none⟩ v7) := ((((((((hb.setCell (p := ⟨B, k * 8, none⟩) (Nat.le_refl _) v0).setCell (p := ⟨B, k * 8 + 1, none⟩) (Nat.le_refl _) v1).setCell (p := ⟨B, k * 8 + 2, none⟩) (Nat.le_refl _) v2).setCell (p := ⟨B, k * 8 + 3, none⟩) (Nat.le_refl _) v3).setCell (p := ⟨B, k * 8 + 4, none⟩) (Nat.le_refl _) v4).setCell (p := ⟨B, k * 8 + 5, none⟩) (Nat.le_refl _) v5).setCell (p := ⟨B, k * 8 + 6, none⟩) (Nat.le_refl _) v6).setCell (p := ⟨B, k * 8 + 7, none⟩) (Nat.le_refl _) v7)

end Go.Proofs.YtiidepafifodjabGreat
