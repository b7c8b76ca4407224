import Derived.Test.YtcpjnddkibbddaaGreatUnC
/-! Rows of K cells each: made and filled. -/
namespace Go.Proofs.YtcpjnddkibbddaaGreat
open Go.RowKit

/-- cell m of a row of things of K cells each -/
def flK (K : Nat) (c : Nat → Array Value) (m : Nat) : Value := ((c (m / K))[m % K]?).getD undef

theorem flK_at {K : Nat} (c : Nat → Array Value) (k j : Nat) (hj : j < K) : flK K c (k * K + j) = ((c k)[j]?).getD undef := by
  unfold flK
  have h1 : (k * K + j) / K = k := by rw [Nat.mul_comm, Nat.mul_add_div (by omega), Nat.div_eq_of_lt hj, Nat.add_zero]
  have h2 : (k * K + j) % K = j := by rw [Nat.mul_comm, Nat.mul_add_mod, Nat.mod_eq_of_lt hj]
  rw [h1, h2]

theorem rowK {w : World} {B K : Nat} {t : TypeId} {n : Nat} {c : Nat → Array Value} (hc : ∀ i, i < n → (c i).size = K) (h : w.rowIs B t (n * K) (flK K c)) : RowN K B w (some ⟨B, 0, none⟩) n c := fun _ =>
  ⟨B, 0, rfl, Nat.le_refl _, h.lt, fun i hi j hj => by
    have hm : i * K + j < n * K := by
      have : (i + 1) * K ≤ n * K := Nat.mul_le_mul_right K hi
      rw [Nat.add_mul, Nat.one_mul] at this
      omega
    rw [Nat.zero_add, h.cell hm, flK_at c i j hj]
    have : j < (c i).size := by rw [hc i hi]; exact hj
    rw [Array.getElem?_eq_getElem this]; rfl⟩

theorem rowOfC (w : World) (c : Array Value) (t : TypeId) : (w.alloc (.cells c t)).rowIs w.heap.size t c.size (fun i => (c[i]?).getD undef) :=
  World.rowIs_alloc w c t _ fun i hi => by rw [Array.getElem?_eq_getElem hi]; rfl

theorem frS {B blk o : Nat} {a w : World} (h : Below B a w) (hp : B ≤ blk) (v : Value) : Below B a (w.setCell ⟨blk, o, none⟩ v) := h.setCell (p := ⟨blk, o, none⟩) hp v

theorem put1 {w : World} {B : Nat} {t : TypeId} {N : Nat} {f : Nat → Value} (h : w.rowIs B t N f) (k : Nat) (c : Nat → Array Value) (hf : ∀ m, m < k * 1 → f m = flK 1 c m) (v0 : Value) (c' : Nat → Array Value) (h1 : ∀ i, i < k → c' i = c i) (h2 : c' k = #[v0]) :
    ∃ f', (w.setCell ⟨B, k, none⟩ v0).rowIs B t N f' ∧ ∀ m, m < (k + 1) * 1 → f' m = flK 1 c' m := by
  refine ⟨_, (h.set _ _), fun m hm => ?_⟩
  by_cases hlt : m < k * 1
  · have e : flK 1 c' m = flK 1 c m := by unfold flK; rw [h1 (m / 1) (by omega)]
    rw [e, ← hf m hlt]
    (repeat rw [if_neg (by omega)])
  · obtain ⟨j, rfl⟩ : ∃ j, m = k * 1 + j := ⟨m - k * 1, by omega⟩
    have hj : j < 1 := by omega
    rw [flK_at c' k j hj, h2]
    rcases (show j = 0 by omega) with rfl <;> simp
theorem fr1 {w u : World} {B : Nat} (k : Nat) (v0 : Value) (hb : Below B u w) : Below B u (w.setCell ⟨B, k, none⟩ v0) := (hb.setCell (p := ⟨B, k, none⟩) (Nat.le_refl _) v0)

theorem put2 {w : World} {B : Nat} {t : TypeId} {N : Nat} {f : Nat → Value} (h : w.rowIs B t N f) (k : Nat) (c : Nat → Array Value) (hf : ∀ m, m < k * 2 → f m = flK 2 c m) (v0 v1 : Value) (c' : Nat → Array Value) (h1 : ∀ i, i < k → c' i = c i) (h2 : c' k = #[v0, v1]) :
    ∃ f', ((w.setCell ⟨B, k * 2, none⟩ v0).setCell ⟨B, k * 2 + 1, none⟩ v1).rowIs B t N f' ∧ ∀ m, m < (k + 1) * 2 → f' m = flK 2 c' m := by
  refine ⟨_, ((h.set _ _).set _ _), fun m hm => ?_⟩
  by_cases hlt : m < k * 2
  · have e : flK 2 c' m = flK 2 c m := by unfold flK; rw [h1 (m / 2) (by omega)]
    rw [e, ← hf m hlt]
    (repeat rw [if_neg (by omega)])
  · obtain ⟨j, rfl⟩ : ∃ j, m = k * 2 + j := ⟨m - k * 2, by omega⟩
    have hj : j < 2 := by omega
    rw [flK_at c' k j hj, h2]
    rcases (show j = 0 ∨ j = 1 by omega) with rfl | rfl <;> simp
theorem fr2 {w u : World} {B : Nat} (k : Nat) (v0 v1 : Value) (hb : Below B u w) : Below B u ((w.setCell ⟨B, k * 2, none⟩ v0).setCell ⟨B, k * 2 + 1, none⟩ v1) := ((hb.setCell (p := ⟨B, k * 2, none⟩) (Nat.le_refl _) v0).setCell (p := ⟨B, k * 2 + 1, none⟩) (Nat.le_refl _) v1)

theorem put7 {w : World} {B : Nat} {t : TypeId} {N : Nat} {f : Nat → Value} (h : w.rowIs B t N f) (k : Nat) (c : Nat → Array Value) (hf : ∀ m, m < k * 7 → f m = flK 7 c m) (v0 v1 v2 v3 v4 v5 v6 : Value) (c' : Nat → Array Value) (h1 : ∀ i, i < k → c' i = c i) (h2 : c' k = #[v0, v1, v2, v3, v4, v5, v6]) :
    ∃ f', (((((((w.setCell ⟨B, k * 7, none⟩ v0).setCell ⟨B, k * 7 + 1, none⟩ v1).setCell ⟨B, k * 7 + 2, none⟩ v2).setCell ⟨B, k * 7 + 3, none⟩ v3).setCell ⟨B, k * 7 + 4, none⟩ v4).setCell ⟨B, k * 7 + 5, none⟩ v5).setCell ⟨B, k * 7 + 6, none⟩ v6).rowIs B t N f' ∧ ∀ m, m < (k + 1) * 7 → f' m = flK 7 c' m := by
  refine ⟨_, (((((((h.set _ _).set _ _).set _ _).set _ _).set _ _).set _ _).set _ _), fun m hm => ?_⟩
  by_cases hlt : m < k * 7
  · have e : flK 7 c' m = flK 7 c m := by unfold flK; rw [h1 (m / 7) (by omega)]
    rw [e, ← hf m hlt]
    (repeat rw [if_neg (by omega)])
  · obtain ⟨j, rfl⟩ : ∃ j, m = k * 7 + j := ⟨m - k * 7, by omega⟩
    have hj : j < 7 := by omega
    rw [flK_at c' k j hj, h2]
    rcases (show j = 0 ∨ j = 1 ∨ j = 2 ∨ j = 3 ∨ j = 4 ∨ j = 5 ∨ j = 6 by omega) with rfl | rfl | rfl | rfl | rfl | rfl | rfl <;> simp
theorem fr7 {w u : World} {B : Nat} (k : Nat) (v0 v1 v2 v3 v4 v5 v6 : Value) (hb : Below B u w) : Below B u (((((((w.setCell ⟨B, k * 7, none⟩ v0).setCell ⟨B, k * 7 + 1, none⟩ v1).setCell ⟨B, k * 7 + 2, none⟩ v2).setCell ⟨B, k * 7 + 3, none⟩ v3).setCell ⟨B, k * 7 + 4, none⟩ v4).setCell ⟨B, k * 7 + 5, none⟩ v5).setCell ⟨B, k * 7 + 6, none⟩ v6) := (((((((hb.setCell (p := ⟨B, k * 7, none⟩) (Nat.le_refl _) v0).setCell (p := ⟨B, k * 7 + 1, none⟩) (Nat.le_refl _) v1).setCell (p := ⟨B, k * 7 + 2, none⟩) (Nat.le_refl _) v2).setCell (p := ⟨B, k * 7 + 3, none⟩) (Nat.le_refl _) v3).setCell (p := ⟨B, k * 7 + 4, none⟩) (Nat.le_refl _) v4).setCell (p := ⟨B, k * 7 + 5, none⟩) (Nat.le_refl _) v5).setCell (p := ⟨B, k * 7 + 6, none⟩) (Nat.le_refl _) v6)

theorem put8 {w : World} {B : Nat} {t : TypeId} {N : Nat} {f : Nat → Value} (h : w.rowIs B t N f) (k : Nat) (c : Nat → Array Value) (hf : ∀ m, m < k * 8 → f m = flK 8 c m) (v0 v1 v2 v3 v4 v5 v6 v7 : Value) (c' : Nat → Array Value) (h1 : ∀ i, i < k → c' i = c i) (h2 : c' k = #[v0, v1, v2, v3, v4, v5, v6, v7]) :
    ∃ f', ((((((((w.setCell ⟨B, k * 8, none⟩ v0).setCell ⟨B, k * 8 + 1, none⟩ v1).setCell ⟨B, k * 8 + 2, none⟩ v2).setCell ⟨B, k * 8 + 3, none⟩ v3).setCell ⟨B, k * 8 + 4, none⟩ v4).setCell ⟨B, k * 8 + 5, none⟩ v5).setCell ⟨B, k * 8 + 6, none⟩ v6).setCell ⟨B, k * 8 + 7, none⟩ v7).rowIs B t N f' ∧ ∀ m, m < (k + 1) * 8 → f' m = flK 8 c' m := by
  refine ⟨_, ((((((((h.set _ _).set _ _).set _ _).set _ _).set _ _).set _ _).set _ _).set _ _), fun m hm => ?_⟩
  by_cases hlt : m < k * 8
  · have e : flK 8 c' m = flK 8 c m := by unfold flK; rw [h1 (m / 8) (by omega)]
    rw [e, ← hf m hlt]
    (repeat rw [if_neg (by omega)])
  · obtain ⟨j, rfl⟩ : ∃ j, m = k * 8 + j := ⟨m - k * 8, by omega⟩
    have hj : j < 8 := by omega
    rw [flK_at c' k j hj, h2]
    rcases (show j = 0 ∨ j = 1 ∨ j = 2 ∨ j = 3 ∨ j = 4 ∨ j = 5 ∨ j = 6 ∨ j = 7 by omega) with rfl | rfl | rfl | rfl | rfl | rfl | rfl | rfl <;> simp
theorem fr8 {w u : World} {B : Nat} (k : Nat) (v0 v1 v2 v3 v4 v5 v6 v7 : Value) (hb : Below B u w) : Below B u ((((((((w.setCell ⟨B, k * 8, none⟩ v0).setCell ⟨B, k * 8 + 1, none⟩ v1).setCell ⟨B, k * 8 + 2, none⟩ v2).setCell ⟨B, k * 8 + 3, none⟩ v3).setCell ⟨B, k * 8 + 4, none⟩ v4).setCell ⟨B, k * 8 + 5, none⟩ v5).setCell ⟨B, k * 8 + 6, none⟩ v6).setCell ⟨B, k * 8 + 7, none⟩ v7) := ((((((((hb.setCell (p := ⟨B, k * 8, none⟩) (Nat.le_refl _) v0).setCell (p := ⟨B, k * 8 + 1, none⟩) (Nat.le_refl _) v1).setCell (p := ⟨B, k * 8 + 2, none⟩) (Nat.le_refl _) v2).setCell (p := ⟨B, k * 8 + 3, none⟩) (Nat.le_refl _) v3).setCell (p := ⟨B, k * 8 + 4, none⟩) (Nat.le_refl _) v4).setCell (p := ⟨B, k * 8 + 5, none⟩) (Nat.le_refl _) v5).setCell (p := ⟨B, k * 8 + 6, none⟩) (Nat.le_refl _) v6).setCell (p := ⟨B, k * 8 + 7, none⟩) (Nat.le_refl _) v7)

end Go.Proofs.YtcpjnddkibbddaaGreat
