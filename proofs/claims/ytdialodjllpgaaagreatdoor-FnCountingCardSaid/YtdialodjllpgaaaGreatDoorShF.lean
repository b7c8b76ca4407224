import Derived.Test.YtdialodjllpgaaaGreatDoorSpC
import Derived.Test.YtdialodjllpgaaaGreatDoorCnD
/-! What the form of a node says: plain. -/
namespace Go.Proofs.YtdialodjllpgaaaGreatDoor

theorem bare_rn {d : ND} {o n f s : Bool} {r : Int} (h : bareB d o n f s r = true) : (d.rn : Int) = r := by
  unfold bareB bareG at h
  simp only [Bool.and_eq_true, beq_iff_eq] at h
  exact h.2
theorem exs_kid {nd : Nat → ND} {m lo hi i : Nat} (h : exsB nd m lo hi = true) (h1 : lo ≤ i) (h2 : i < hi) : exK (kidK nd m i) = true := allB_true.1 h i h1 h2
theorem exK_two {k : Int} (h : exK k = true) : k ≠ 2 := by
  unfold exK at h
  simp at h
  omega

theorem sh_kids {nd : Nat → ND} {m : Nat} (h : shB nd m = true) : (nd m).kn ≤ 200 ∧ ∀ j, j < (nd m).kn → 0 ≤ (nd m).c j ∧ (nd m).c j < m := by
  unfold shB at h
  simp only [Bool.and_eq_true] at h
  obtain ⟨⟨h1, h2⟩, _⟩ := h
  refine ⟨by simp at h1; omega, fun j hj => ?_⟩
  have := allB_true.1 h2 j (Nat.zero_le _) hj
  simp at this
  omega
theorem kidK_eq {nd : Nat → ND} {m j : Nat} (h : ∀ j, j < (nd m).kn → 0 ≤ (nd m).c j ∧ (nd m).c j < m) (hj : j < (nd m).kn) : kidK nd m j = (nd ((nd m).c j).toNat).k := by
  unfold kidK
  rw [if_pos hj, if_pos (h j hj)]

/-- what is known of a node of good form -/
structure ShF (nd : Nat → ND) (m : Nat) : Prop where
  kids : ∀ j, j < (nd m).kn → 0 ≤ (nd m).c j ∧ (nd m).c j < m
  kn : (nd m).kn ≤ 200
  kind : (1 ≤ (nd m).k ∧ (nd m).k ≤ 14) ∨ (20 ≤ (nd m).k ∧ (nd m).k ≤ 38)
  one : (nd m).k = 26 ∨ (nd m).k = 27 ∨ (nd m).k = 36 ∨ (nd m).k = 7 → (nd m).rn = 1
  try2 : (nd m).k = 12 → (nd m).rn = 2
  refs : (nd m).rn ≠ 0 → (nd m).k = 2 ∨ (nd m).k = 7 ∨ (nd m).k = 8 ∨ (nd m).k = 12 ∨ (nd m).k = 26 ∨ (nd m).k = 27 ∨ (nd m).k = 36
  two : (nd m).k = 6 ∨ (nd m).k = 8 ∨ (nd m).k = 12 → (nd m).kn = 2
  four : (nd m).k = 7 → (nd m).kn = 4
  leaf : (nd m).k = 9 ∨ (nd m).k = 10 ∨ (nd m).k = 26 ∨ (nd m).k = 27 ∨ (nd m).k = 36 ∨ (nd m).k = 37 → (nd m).kn = 0
  lets : (nd m).k ≠ 1 → ∀ j, j < (nd m).kn → (nd ((nd m).c j).toNat).k ≠ 2

theorem blk_two {nd : Nat → ND} {m : Nat} (h : blkB nd m = true) {j : Nat} (hj : j + 1 = (nd m).kn) : kidK nd m j ≠ 2 := by
  unfold blkB at h
  simp only [Bool.and_eq_true, beq_iff_eq] at h
  have : (nd m).kn - 1 = j := by omega
  rw [this] at h
  omega

set_option maxHeartbeats 4000000 in
theorem sh_facts {nd : Nat → ND} {m : Nat} (h : shB nd m = true) : ShF nd m := by
  obtain ⟨hkn, hk⟩ := sh_kids h
  have hke : ∀ j, j < (nd m).kn → kidK nd m j = (nd ((nd m).c j).toNat).k := fun j hj => kidK_eq hk hj
  have h3 : (if stK (nd m).k then decide (1 ≤ (nd m).l) && decide ((nd m).l ≤ 100000) && stBs nd m else (nd m).l == 0 && epB nd m) = true := by
    unfold shB at h
    rw [Bool.and_eq_true] at h
    exact h.2
  clear h
  by_cases hs : stK (nd m).k = true
  · rw [if_pos hs, Bool.and_eq_true] at h3
    have h := h3.2
    clear h3
    have hr : 1 ≤ (nd m).k ∧ (nd m).k ≤ 14 := by unfold stK at hs; simp at hs; exact hs
    unfold stBs at h
    rcases (show (nd m).k = 1 ∨ (nd m).k = 2 ∨ (nd m).k = 3 ∨ (nd m).k = 4 ∨ (nd m).k = 5 ∨ (nd m).k = 6 ∨ (nd m).k = 7 ∨ (nd m).k = 8 ∨ (nd m).k = 9 ∨ (nd m).k = 10 ∨ (nd m).k = 11 ∨ (nd m).k = 12 ∨ (nd m).k = 13 ∨ (nd m).k = 14 by omega) with e | e | e | e | e | e | e | e | e | e | e | e | e | e <;> (simp only [e] at h; simp only [Int.reduceEq, if_true, if_false, Bool.and_eq_true, Bool.or_eq_true, or_false, or_true, beq_iff_eq] at h)
    · have b := bare_rn h.2
      exact ⟨hk, hkn, .inl hr, fun h => by omega, fun h => by omega, fun h => by omega, fun h => by omega, fun h => by omega, fun h => by omega, fun h => absurd e h⟩
    · exact ⟨hk, hkn, .inl hr, fun h => by omega, fun h => by omega, fun h => by omega, fun h => by omega, fun h => by omega, fun h => by omega, fun _ j hj => by rw [← hke j hj]; exact exK_two (exs_kid h.2 (Nat.zero_le _) hj)⟩
    · have b := bare_rn h.1.2
      refine ⟨hk, hkn, .inl hr, fun h => by omega, fun h => by omega, fun h => by omega, fun h => by omega, fun h => by omega, fun h => by omega, fun _ j hj => ?_⟩
      rw [← hke j hj]
      by_cases hj2 : j < (nd m).n.toNat
      · have := allB_true.1 h.1.1.2 j (Nat.zero_le _) hj2
        unfold tgK at this
        simp at this
        omega
      · exact exK_two (exs_kid h.2 (by omega) hj)
    · have b := bare_rn h.2
      refine ⟨hk, hkn, .inl hr, fun h => by omega, fun h => by omega, fun h => by omega, fun h => by omega, fun h => by omega, fun h => by omega, fun _ j hj => ?_⟩
      obtain rfl : j = 0 := by omega
      rw [← hke 0 hj]
      omega
    · have b := bare_rn h.2
      refine ⟨hk, hkn, .inl hr, fun h => by omega, fun h => by omega, fun h => by omega, fun h => by omega, fun h => by omega, fun h => by omega, fun _ j hj => ?_⟩
      rw [← hke j hj]
      have h0 := exK_two (exs_kid (i := 0) h.1.1.2 (Nat.zero_le _) (by omega))
      rcases (show j = 0 ∨ j = 1 ∨ j = 2 by omega) with rfl | rfl | rfl
      · exact h0
      · omega
      · omega
    · have b := bare_rn h.2
      refine ⟨hk, hkn, .inl hr, fun h => by omega, fun h => by omega, fun h => by omega, fun h => by omega, fun h => by omega, fun h => by omega, fun _ j hj => ?_⟩
      rw [← hke j hj]
      rcases (show j = 0 ∨ j + 1 = (nd m).kn by omega) with rfl | hj2
      · exact exK_two (exs_kid (i := 0) h.1.1.2 (Nat.zero_le _) (by omega))
      · exact blk_two h.1.2 hj2
    · have b := bare_rn h.2
      refine ⟨hk, hkn, .inl hr, fun h => by omega, fun h => by omega, fun h => by omega, fun h => by omega, fun h => by omega, fun h => by omega, fun _ j hj => ?_⟩
      rw [← hke j hj]
      rcases (show j < 3 ∨ j + 1 = (nd m).kn by omega) with hj2 | hj2
      · exact exK_two (exs_kid h.1.1.2 (Nat.zero_le _) hj2)
      · exact blk_two h.1.2 hj2
    · have b := bare_rn h.2
      refine ⟨hk, hkn, .inl hr, fun h => by omega, fun h => by omega, fun h => by omega, fun h => by omega, fun h => by omega, fun h => by omega, fun _ j hj => ?_⟩
      rw [← hke j hj]
      rcases (show j = 0 ∨ j + 1 = (nd m).kn by omega) with rfl | hj2
      · exact exK_two (exs_kid (i := 0) h.1.1.2 (Nat.zero_le _) (by omega))
      · exact blk_two h.1.2 hj2
    · have b := bare_rn h.2
      exact ⟨hk, hkn, .inl hr, fun h => by omega, fun h => by omega, fun h => by omega, fun h => by omega, fun h => by omega, fun h => by omega, fun _ j hj => by omega⟩
    · have b := bare_rn h.2
      exact ⟨hk, hkn, .inl hr, fun h => by omega, fun h => by omega, fun h => by omega, fun h => by omega, fun h => by omega, fun h => by omega, fun _ j hj => by omega⟩
    · have b := bare_rn h.2
      exact ⟨hk, hkn, .inl hr, fun h => by omega, fun h => by omega, fun h => by omega, fun h => by omega, fun h => by omega, fun h => by omega, fun _ j hj => by rw [← hke j hj]; exact exK_two (exs_kid h.1 (Nat.zero_le _) hj)⟩
    · have b := bare_rn h.2
      refine ⟨hk, hkn, .inl hr, fun h => by omega, fun h => by omega, fun h => by omega, fun h => by omega, fun h => by omega, fun h => by omega, fun _ j hj => ?_⟩
      rw [← hke j hj]
      rcases (show j = 0 ∨ j + 1 = (nd m).kn by omega) with rfl | hj2
      · omega
      · exact blk_two h.1.2 hj2
    · have b := bare_rn h.2
      refine ⟨hk, hkn, .inl hr, fun h => by omega, fun h => by omega, fun h => by omega, fun h => by omega, fun h => by omega, fun h => by omega, fun _ j hj => ?_⟩
      rw [← hke j hj]
      exact exK_two (exs_kid h.1.2 (Nat.zero_le _) (by omega))
    · have b := bare_rn h.2
      refine ⟨hk, hkn, .inl hr, fun h => by omega, fun h => by omega, fun h => by omega, fun h => by omega, fun h => by omega, fun h => by omega, fun _ j hj => ?_⟩
      obtain rfl : j = 0 := by omega
      rw [← hke 0 hj]
      omega
  · rw [if_neg hs, Bool.and_eq_true] at h3
    have h := h3.2
    clear h3
    unfold epB at h
    have hr : 20 ≤ (nd m).k ∧ (nd m).k ≤ 38 := by
      refine Classical.byContradiction fun hn => ?_
      have hf : ∀ {p : Prop} [Decidable p] {a b : Bool}, ¬ p → (if p then a else b) = true → b = true := fun hp h => by rwa [if_neg hp] at h
      exact absurd (hf (by omega) (hf (by omega) (hf (by omega) (hf (by omega) (hf (by omega) (hf (by omega) (hf (by omega) (hf (by omega) (hf (by omega) (hf (by omega) (hf (by omega) (hf (by omega) h)))))))))))) (by decide)
    rcases (show (nd m).k = 20 ∨ (nd m).k = 21 ∨ (nd m).k = 22 ∨ (nd m).k = 23 ∨ (nd m).k = 24 ∨ (nd m).k = 25 ∨ (nd m).k = 26 ∨ (nd m).k = 27 ∨ (nd m).k = 28 ∨ (nd m).k = 29 ∨ (nd m).k = 30 ∨ (nd m).k = 31 ∨ (nd m).k = 32 ∨ (nd m).k = 33 ∨ (nd m).k = 34 ∨ (nd m).k = 35 ∨ (nd m).k = 36 ∨ (nd m).k = 37 ∨ (nd m).k = 38 by omega) with e | e | e | e | e | e | e | e | e | e | e | e | e | e | e | e | e | e | e <;> (simp only [e] at h; simp only [Int.reduceEq, if_true, if_false, Bool.and_eq_true, or_false, or_true, beq_iff_eq] at h)
    all_goals
      have b := bare_rn h.2
      refine ⟨hk, hkn, .inr hr, fun h => by omega, fun h => by omega, fun h => by omega, fun h => by omega, fun h => by omega, fun h => by omega, fun _ j hj => ?_⟩
    all_goals first
      | omega
      | (rw [← hke j hj]; exact exK_two (exs_kid h.1.2 (Nat.zero_le _) hj))
      | (rw [← hke j hj]; exact exK_two (exs_kid h.1.1.2 (Nat.zero_le _) hj))
      | (rw [← hke j hj]; exact exK_two (exs_kid h.1.1.1.2 (Nat.zero_le _) hj))
      | (obtain rfl : j = 0 := by omega
         rw [← hke 0 hj]
         have h1 := h.1.2
         unfold mnK at h1
         simp at h1
         omega)
end Go.Proofs.YtdialodjllpgaaaGreatDoor

/-! All faults of a unit: plain. -/
namespace Go.Proofs.YtdialodjllpgaaaGreatDoor

/-- faults of one code, at fns and nodes -/
def At2 (C U : Nat) (N : Nat → Nat) (bad : Nat → Nat → Prop) (y : FT) : Prop := y.c = C ∧ y.f < U ∧ y.n < N y.f ∧ bad y.f y.n
theorem At2.least {C U : Nat} {N : Nat → Nat} {bad : Nat → Nat → Prop} {f n : Nat} (hC : 0 < C) (h1 : ∀ f', f' < f → ∀ n', n' < N f' → ¬ bad f' n') (h2 : ∀ n', n' < n → ¬ bad f n') (hf : f < U) (hn : n < N f) (hb : bad f n) : Least (At2 C U N bad) ⟨C, f, n⟩ := by
  refine .inr ⟨hC, ⟨rfl, hf, hn, hb⟩, fun y hy => ?_⟩
  obtain ⟨a, b, c, d⟩ := hy
  refine .inr ⟨a.symm, ?_⟩
  by_cases e : y.f < f
  · exact absurd d (h1 _ e _ c)
  · by_cases e2 : y.f = f
    · refine .inr ⟨e2.symm, ?_⟩
      by_cases e3 : y.n < n
      · rw [e2] at d
        exact absurd d (h2 _ e3)
      · exact Nat.le_of_not_lt e3
    · exact .inl (by show f < y.f; omega)
theorem At2.none {C U : Nat} {N : Nat → Nat} {bad : Nat → Nat → Prop} (h : ∀ f, f < U → ∀ n, n < N f → ¬ bad f n) : ∀ y, ¬ At2 C U N bad y := fun _ hy => h _ hy.2.1 _ hy.2.2.1 hy.2.2.2
theorem At2.no {C U : Nat} {N : Nat → Nat} {bad : Nat → Nat → Prop} (h : ∀ y, ¬ At2 C U N bad y) : ∀ f, f < U → ∀ n, n < N f → ¬ bad f n := fun f hf n hn hb => h ⟨C, f, n⟩ ⟨rfl, hf, hn, hb⟩
/-- the nodes of the first fns -/
def tot (fn : Nat → FD) : Nat → Nat
  | 0 => 0
  | k + 1 => tot fn k + (fn k).nn
def SizeOk (u : UD) : Prop := 1 ≤ u.n ∧ u.n ≤ 300 ∧ tot u.fn u.n ≤ 3000
def HeadOk (u : UD) (f : Nat) : Prop := ((u.fn f).nn ≠ 0 ∧ (u.fn f).vn ≤ 200 ∧ (u.fn f).un ≤ 200 ∧ 0 ≤ (u.fn f).params ∧ (u.fn f).params ≤ (u.fn f).vn)
  ∧ (0 ≤ (u.fn f).line ∧ (u.fn f).line ≤ 100000 ∧ (u.fn f).name.size ≤ 40 ∧ (f = 0 → (u.fn f).params = 0 ∧ (u.fn f).un = 0))
  ∧ ∀ i, i < (u.fn f).vn → 1 ≤ ((u.fn f).v i).size ∧ ((u.fn f).v i).size ≤ 40
def Bad1 (u : UD) : FT → Prop := At2 1 1 (fun _ => 1) (fun _ _ => ¬ SizeOk u)
def Bad2 (u : UD) : FT → Prop := At2 2 u.n (fun _ => 1) (fun f _ => ¬ HeadOk u f)
def Bad3 (u : UD) : FT → Prop := At2 3 u.n (fun f => (u.fn f).nn) (fun f n => shB (u.fn f).nd n = false)
def Bad4 (u : UD) : FT → Prop := At2 4 u.n (fun f => (u.fn f).nn) (fun f n => (n < (u.fn f).nn - 1 ∧ parP (u.fn f).nd (u.fn f).nn n < 0) ∨ (n = (u.fn f).nn - 1 ∧ ((u.fn f).nd n).k ≠ 1))
def Bad5 (u : UD) : FT → Prop := At2 5 u.n (fun f => (u.fn f).nn) (fun f n => 100 < depP (parP (u.fn f).nd (u.fn f).nn) (u.fn f).nn ((u.fn f).nn - 1) n)
/-- all of them -/
def BadU (u : UD) (y : FT) : Prop := Bad1 u y ∨ Bad2 u y ∨ Bad3 u y ∨ Bad4 u y ∨ Bad5 u y ∨ BadS u y

theorem badS_code {u : UD} {y : FT} (h : BadS u y) : 6 ≤ y.c := by
  rcases h with h | h | h | h <;> (have := h.1; omega)
/-- the size is right -/
structure U1 (u : UD) : Prop where
  size : SizeOk u
/-- fns and forms are right too -/
structure U3 (u : UD) : Prop where
  size : SizeOk u
  head : ∀ f, f < u.n → HeadOk u f
  form : ∀ f, f < u.n → ∀ n, n < (u.fn f).nn → shB (u.fn f).nd n = true
theorem U3.facts {u : UD} (h : U3 u) {f : Nat} (hf : f < u.n) {n : Nat} (hn : n < (u.fn f).nn) : ShF (u.fn f).nd n := sh_facts (h.form f hf n hn)
theorem U3.kids {u : UD} (h : U3 u) {f : Nat} (hf : f < u.n) : KidsIn (u.fn f).nd (u.fn f).nn := fun _ hi j hj => (h.facts hf hi).kids j hj
theorem tot_le (fn : Nat → FD) : ∀ (n k : Nat), k < n → (fn k).nn ≤ tot fn n
  | 0, _, h => by omega
  | n + 1, k, h => by
    unfold tot
    by_cases e : k = n
    · subst e; omega
    · have := tot_le fn n k (by omega); omega
theorem U3.nn {u : UD} (h : U3 u) {f : Nat} (hf : f < u.n) : (u.fn f).nn ≤ 3000 ∧ 0 < (u.fn f).nn := by
  have h1 := tot_le u.fn u.n f hf
  have h2 := h.size.2.2
  have h3 := (h.head f hf).1.1
  omega
/-- the trees are right too -/
structure U5 (u : UD) : Prop extends U3 u where
  tree : ∀ f, f < u.n → TreeOk (u.fn f).nd (u.fn f).nn
theorem u3_of {u : UD} (h1 : ∀ y, ¬ Bad1 u y) (h2 : ∀ y, ¬ Bad2 u y) (h3 : ∀ y, ¬ Bad3 u y) : U3 u := by
  refine ⟨?_, fun f hf => ?_, fun f hf n hn => ?_⟩
  · exact Classical.byContradiction fun h => At2.no h1 0 (by omega) 0 (by omega) h
  · exact Classical.byContradiction fun h => At2.no h2 f hf 0 (by omega) h
  · have := At2.no h3 f hf n hn
    simpa using this
theorem u5_of {u : UD} (h : U3 u) (h4 : ∀ y, ¬ Bad4 u y) : U5 u := by
  refine ⟨h, fun f hf => ⟨(h.nn hf).2, h.kids hf, fun x hx => ?_, ?_⟩⟩
  · have := At2.no h4 f hf x (by omega)
    omega
  · have hp := (h.nn hf).2
    have := At2.no h4 f hf ((u.fn f).nn - 1) (by omega)
    omega
end Go.Proofs.YtdialodjllpgaaaGreatDoor

/-! The unit of one counted loop that prints: it has no fault. Plain. -/
namespace Go.Proofs.YtdialodjllpgaaaGreatDoor

/-- the nodes of a loop from a to b by s -/
def cuN (a b s l6 l7 l8 : Int) : Nat → ND
  | 0 => ⟨23, 0, 0, a, 0, ⟨#[]⟩, 0, fun _ => 0, 0, fun _ => 0⟩
  | 1 => ⟨23, 0, 0, b, 0, ⟨#[]⟩, 0, fun _ => 0, 0, fun _ => 0⟩
  | 2 => ⟨23, 0, 0, s, 0, ⟨#[]⟩, 0, fun _ => 0, 0, fun _ => 0⟩
  | 3 => ⟨26, 0, 0, 0, 0, ⟨#[]⟩, 1, fun _ => 0, 0, fun _ => 0⟩
  | 4 => ⟨28, 0, 0, 0, 0, ⟨#[]⟩, 0, fun _ => 0, 0, fun _ => 0⟩
  | 5 => ⟨34, 0, 0, 0, 0, ⟨#[]⟩, 0, fun _ => 0, 2, fun j => if j = 0 then 4 else 3⟩
  | 6 => ⟨4, l6, 0, 0, 0, ⟨#[]⟩, 0, fun _ => 0, 1, fun _ => 5⟩
  | 7 => ⟨1, l7, 0, 0, 0, ⟨#[]⟩, 0, fun _ => 0, 1, fun _ => 6⟩
  | 8 => ⟨7, l8, 0, 0, 0, ⟨#[]⟩, 1, fun _ => 0, 4, fun j => if j = 3 then 7 else j⟩
  | 9 => ⟨1, 1, 0, 0, 0, ⟨#[]⟩, 0, fun _ => 0, 1, fun _ => 8⟩
  | _ + 10 => ⟨1, 1, 0, 0, 0, ⟨#[]⟩, 0, fun _ => 0, 1, fun _ => 8⟩
def cuF (a b s l6 l7 l8 : Int) : FD := ⟨⟨#[109, 97, 105, 110]⟩, 0, 0, true, 1, fun _ => ⟨#[97]⟩, 0, fun _ => ⟨false, 0⟩, 10, cuN a b s l6 l7 l8⟩
def cuU (a b s l6 l7 l8 : Int) : UD := ⟨1, fun _ => cuF a b s l6 l7 l8⟩
theorem lt10 {P : Nat → Prop} (h0 : P 0) (h1 : P 1) (h2 : P 2) (h3 : P 3) (h4 : P 4) (h5 : P 5) (h6 : P 6) (h7 : P 7) (h8 : P 8) (h9 : P 9) : ∀ n, n < 10 → P n
  | 0, _ => h0
  | 1, _ => h1
  | 2, _ => h2
  | 3, _ => h3
  | 4, _ => h4
  | 5, _ => h5
  | 6, _ => h6
  | 7, _ => h7
  | 8, _ => h8
  | 9, _ => h9
  | _ + 10, h => absurd h (by omega)
variable (a b s l6 l7 l8 : Int)
/-- lines that a statement may have -/
structure LnsOk (l6 l7 l8 : Int) : Prop where
  a6 : 1 ≤ l6
  b6 : l6 ≤ 100000
  a7 : 1 ≤ l7
  b7 : l7 ≤ 100000
  a8 : 1 ≤ l8
  b8 : l8 ≤ 100000
theorem cu_form (h : LnsOk l6 l7 l8) : ∀ n, n < 10 → shB (cuN a b s l6 l7 l8) n = true := by
  have e6 : shB (cuN a b s l6 l7 l8) 6 = (decide (1 ≤ l6) && decide (l6 ≤ 100000) && true) := by kernel_rfl
  have e7 : shB (cuN a b s l6 l7 l8) 7 = (decide (1 ≤ l7) && decide (l7 ≤ 100000) && true) := by kernel_rfl
  have e8 : shB (cuN a b s l6 l7 l8) 8 = (decide (1 ≤ l8) && decide (l8 ≤ 100000) && true) := by kernel_rfl
  refine lt10 (by kernel_rfl) (by kernel_rfl) (by kernel_rfl) (by kernel_rfl) (by kernel_rfl) (by kernel_rfl) ?_ ?_ ?_ (by kernel_rfl)
  · rw [e6]; simp [h.a6, h.b6]
  · rw [e7]; simp [h.a7, h.b7]
  · rw [e8]; simp [h.a8, h.b8]
theorem cu_par : ∀ n, n < 10 → parP (cuN a b s l6 l7 l8) 10 n = (if n < 3 then 8 else if n = 3 then 5 else if n < 9 then n + 1 else -1 : Int) := lt10 (by kernel_rfl) (by kernel_rfl) (by kernel_rfl) (by kernel_rfl) (by kernel_rfl) (by kernel_rfl) (by kernel_rfl) (by kernel_rfl) (by kernel_rfl) (by kernel_rfl)
theorem cu_dep : ∀ n, n < 10 → depP (parP (cuN a b s l6 l7 l8) 10) 10 9 n ≤ 100 := lt10 (of_decide_eq_true rfl) (of_decide_eq_true rfl) (of_decide_eq_true rfl) (of_decide_eq_true rfl) (of_decide_eq_true rfl) (of_decide_eq_true rfl) (of_decide_eq_true rfl) (of_decide_eq_true rfl) (of_decide_eq_true rfl) (of_decide_eq_true rfl)
theorem cu_vis : Vis (cuN a b s l6 l7 l8) 10 0 3 := by
  refine .up 3 5 1 ⟨by omega, of_decide_eq_true rfl, rfl⟩ (.up 5 6 0 ⟨by omega, of_decide_eq_true rfl, rfl⟩ (.up 6 7 0 ⟨by omega, of_decide_eq_true rfl, rfl⟩ (.here 7 8 3 ⟨by omega, of_decide_eq_true rfl, rfl⟩ (.inr ⟨.inl rfl, rfl, 0, of_decide_eq_true rfl, rfl⟩))))
theorem cu_ok (hl : LnsOk l6 l7 l8) : ∀ y, ¬ BadU (cuU a b s l6 l7 l8) y := by
  rintro y (h | h | h | h | h | h | h | h | h)
  · refine h.2.2.2 ⟨of_decide_eq_true rfl, of_decide_eq_true rfl, ?_⟩
    show 0 + 10 ≤ 3000
    omega
  · obtain ⟨_, hf, _, hb⟩ := h
    replace hf : y.f < 1 := hf
    obtain e : y.f = 0 := by omega
    refine hb ⟨⟨of_decide_eq_true rfl, of_decide_eq_true rfl, of_decide_eq_true rfl, of_decide_eq_true rfl, of_decide_eq_true rfl⟩, ⟨of_decide_eq_true rfl, of_decide_eq_true rfl, of_decide_eq_true rfl, fun _ => ⟨rfl, rfl⟩⟩, fun i _ => ⟨of_decide_eq_true rfl, of_decide_eq_true rfl⟩⟩
  · obtain ⟨_, _, hn, hb⟩ := h
    rw [show ((cuU a b s l6 l7 l8).fn y.f).nd = cuN a b s l6 l7 l8 from rfl, cu_form a b s l6 l7 l8 hl y.n hn] at hb
    cases hb
  · obtain ⟨_, _, hn, hb⟩ := h
    replace hn : y.n < 10 := hn
    rcases hb with ⟨h1, h2⟩ | ⟨h1, h2⟩
    · replace h1 : y.n < 9 := h1
      rw [show parP ((cuU a b s l6 l7 l8).fn y.f).nd ((cuU a b s l6 l7 l8).fn y.f).nn y.n = parP (cuN a b s l6 l7 l8) 10 y.n from rfl, cu_par a b s l6 l7 l8 y.n hn] at h2
      rcases (show y.n < 3 ∨ y.n = 3 ∨ (3 < y.n ∧ y.n < 9) by omega) with h3 | h3 | h3
      · rw [if_pos h3] at h2
        omega
      · rw [if_neg (by omega), if_pos h3] at h2
        omega
      · rw [if_neg (by omega), if_neg (by omega), if_pos h3.2] at h2
        omega
    · replace h1 : y.n = 9 := h1
      rw [h1] at h2
      exact h2 rfl
  · obtain ⟨_, _, hn, hb⟩ := h
    replace hn : y.n < 10 := hn
    have := cu_dep a b s l6 l7 l8 y.n hn
    replace hb : 100 < depP (parP (cuN a b s l6 l7 l8) 10) 10 9 y.n := hb
    omega
  · obtain ⟨_, hf, hn, hb⟩ := h
    replace hn : y.n < 10 := hn
    replace hf : y.f < 1 := hf
    refine hb ?_
    have e : y.f = 0 := by omega
    rw [e]
    revert hn
    generalize y.n = n
    revert n
    have hz : InR 0 1 := ⟨by omega, of_decide_eq_true rfl⟩
    refine lt10 ?_ ?_ ?_ ?_ ?_ ?_ ?_ ?_ ?_ ?_
    all_goals refine ⟨fun h => ?_, fun h => ?_, fun h => ?_, fun h j hj => ?_⟩
    all_goals first
      | (exfalso; revert h; exact of_decide_eq_true rfl)
      | (exfalso; rcases h with h | h | h | h <;> (revert h; exact of_decide_eq_true rfl))
      | exact ⟨hz, .inr (cu_vis a b s l6 l7 l8)⟩
      | skip
    refine ⟨hz, ?_⟩
    rintro (h1 | ⟨m, h1, h2, h3⟩ | ⟨b', h1, h2⟩)
    · exact absurd h1 (by show ¬ ((0 : Int) < 0); omega)
    · replace h1 : m < 8 := h1
      have hm : ∀ m, m < 10 → m < 8 → ¬ DeclK (cuN a b s l6 l7 l8 m).k := by
        refine lt10 ?_ ?_ ?_ ?_ ?_ ?_ ?_ ?_ ?_ ?_
        all_goals first
          | (intro _ h; rcases h with h | h | h | h <;> (revert h; exact of_decide_eq_true rfl))
          | (intro h; omega)
      exact hm m (by omega) h1 h2
    · replace hj : j < 1 := hj
      omega
  · obtain ⟨_, _, hn, hb⟩ := h
    replace hn : y.n < 10 := hn
    have hm : ∀ n, n < 10 → ¬ ((cuN a b s l6 l7 l8 n).k = 9 ∨ (cuN a b s l6 l7 l8 n).k = 10) := by
      refine lt10 ?_ ?_ ?_ ?_ ?_ ?_ ?_ ?_ ?_ ?_
      all_goals (rintro (h | h) <;> (revert h; exact of_decide_eq_true rfl))
    exact hm y.n hn hb.1
  · obtain ⟨_, _, hn, hb⟩ := h
    replace hn : y.n < 10 := hn
    have hm : ∀ n, n < 10 → ¬ (cuN a b s l6 l7 l8 n).k = 37 ∧ ¬ (cuN a b s l6 l7 l8 n).k = 36 := by
      refine lt10 ?_ ?_ ?_ ?_ ?_ ?_ ?_ ?_ ?_ ?_
      all_goals (refine ⟨fun h => ?_, fun h => ?_⟩ <;> (revert h; exact of_decide_eq_true rfl))
    rcases hb with (⟨h1, _⟩ | ⟨h1, _⟩) | ⟨h1, _⟩
    · exact (hm y.n hn).1 h1
    · exact (hm y.n hn).2 h1
    · exact (hm y.n hn).2 h1
  · obtain ⟨_, _, h1, h2, _⟩ := h
    replace h2 : y.f < 1 := h2
    omega
end Go.Proofs.YtdialodjllpgaaaGreatDoor
