import Derived.Test.YtiidepafifodjaaFtE
/-! FnTables: one step, plain. -/
namespace Go.Proofs.Ytiidepafifodjaa
open Go.RowKit

/-- what is put -/
def PutV (x c : Int) (y : VD) : Prop := (x = 0 ∧ y = vz) ∨ (x ≠ 0 ∧ y = iv c)
/-- the lists behind a step -/
inductive Stepped (n : Nat) (K V : Nat → Int) (x k c : Int) (D7 : TD) : Prop where
  | add (hx : x ≠ 0) (hk : ∀ j, j < n → K j ≠ k) (hn : D7.n = n + 1) (h : IsT D7.n D7.t D7.q (upF K n k) (upF V n c))
  | set (hx : x ≠ 0) (j : Nat) (hj : j < n) (hk : K j = k) (hn : D7.n = n) (h : IsT D7.n D7.t D7.q K (upF V j c))
  | del (hx : x = 0) (j : Nat) (hj : j < n) (hk : K j = k) (hn : D7.n = n - 1) (h : IsT D7.n D7.t D7.q (rmF K j) (rmF V j))
  | keep (hx : x = 0) (hk : ∀ j, j < n → K j ≠ k) (hn : D7.n = n) (h : IsT D7.n D7.t D7.q K V)
theorem stepped {n : Nat} {t : Int} {q : Nat → PD} {K V : Nat → Int} (h : IsT n t q K V) {x k c : Int} {y : VD} (hn : n < 500) (ht : t < 1000000000000) (hp : PutV x c y) {D7 : TD} (hD : PutSays n t q (iv k) y D7) : Stepped n K V x k c D7 ∧ D7.n ≤ n + 1 ∧ D7.t ≤ t + 1 := by
  by_cases hk : ∃ j, j < n ∧ K j = k
  · obtain ⟨j, hj, e⟩ := hk
    rcases hp with ⟨hx, rfl⟩ | ⟨hx, rfl⟩
    · obtain ⟨h1, h2, h3⟩ := h.del hj e hD
      exact ⟨.del hx j hj e h1 h3, by omega, by omega⟩
    · obtain ⟨h1, h2, h3⟩ := h.set hj e hD
      exact ⟨.set hx j hj e h1 h3, by omega, by omega⟩
  · have hk' : ∀ j, j < n → K j ≠ k := fun j hj e => hk ⟨j, hj, e⟩
    rcases hp with ⟨hx, rfl⟩ | ⟨hx, rfl⟩
    · obtain ⟨h1, h2, h3⟩ := h.keep hk' hD
      exact ⟨.keep hx hk' h1 h3, by omega, by omega⟩
    · obtain ⟨h1, h2, h3⟩ := h.add hn ht hk' hD
      exact ⟨.add hx hk' h1 h3, by omega, by omega⟩
theorem Stepped.some {n : Nat} {K V : Nat → Int} {x k c : Int} {D7 : TD} (h : Stepped n K V x k c D7) : ∃ K' V', IsT D7.n D7.t D7.q K' V' := by
  cases h with
  | add _ _ _ h => exact ⟨_, _, h⟩
  | set _ _ _ _ _ h => exact ⟨_, _, h⟩
  | del _ _ _ _ _ h => exact ⟨_, _, h⟩
  | keep _ _ _ h => exact ⟨_, _, h⟩
theorem Stepped.ok {n : Nat} {K V : Nat → Int} {x k c : Int} {D7 : TD} (h : Stepped n K V x k c D7) : TabOk D7.n D7.t D7.q := by
  obtain ⟨_, _, h⟩ := h.some; exact h.ok
theorem Stepped.wf {n : Nat} {K V : Nat → Int} {x k c : Int} {D7 : TD} (h : Stepped n K V x k c D7) : ∀ i, i < D7.n → (D7.q i).wf := by
  obtain ⟨_, _, h⟩ := h.some; exact h.wf

/-- where a key stands -/
def AtIs (K : Nat → Int) (j : Nat) (k : Int) (v : Value) : Prop := (v = .int .i64 (-1) ∧ ∀ l, l < j → K l ≠ k) ∨ ∃ l : Nat, l < j ∧ K l = k ∧ v = .int .i64 l
theorem AtIs.zero (K : Nat → Int) (k : Int) : AtIs K 0 k (.int .i64 (-1)) := .inl ⟨rfl, fun l hl => absurd hl (Nat.not_lt_zero l)⟩
theorem AtIs.yes {K : Nat → Int} {j : Nat} {k : Int} (e : K j = k) : AtIs K (j + 1) k (.int .i64 (j : Int)) := .inr ⟨j, by omega, e, rfl⟩
theorem AtIs.no {K : Nat → Int} {j : Nat} {k : Int} {v : Value} (h : AtIs K j k v) (e : K j ≠ k) : AtIs K (j + 1) k v := by
  rcases h with ⟨h1, h2⟩ | ⟨l, hl, h1, h2⟩
  · refine .inl ⟨h1, fun l hl => ?_⟩
    by_cases c : l = j
    · subst c; exact e
    · exact h2 l (by omega)
  · exact .inr ⟨l, by omega, h1, h2⟩
theorem AtIs.none {K : Nat → Int} {n : Nat} {k : Int} {v : Value} (h : AtIs K n k v) (hk : ∀ j, j < n → K j ≠ k) : v = .int .i64 (-1) := by
  rcases h with ⟨h1, _⟩ | ⟨l, hl, h1, _⟩
  · exact h1
  · exact absurd h1 (hk l hl)
theorem AtIs.some {n : Nat} {t : Int} {q : Nat → PD} {K V : Nat → Int} (hI : IsT n t q K V) {k : Int} {v : Value} (h : AtIs K n k v) {j : Nat} (hj : j < n) (e : K j = k) : v = .int .i64 (j : Int) := by
  rcases h with ⟨_, h2⟩ | ⟨l, hl, h1, h2⟩
  · exact absurd e (h2 j hj)
  · rw [h2, hI.inj hl hj (by rw [h1, e])]

theorem OI.at {u : World} {N : Nat} {a : Option Addr} {n cap : Nat} {K : Nat → Int} (h : OI u N a n cap K) {i : Nat} (hi : i < n) : ∃ b, a = Option.some ⟨b, 0, Option.none⟩ ∧ u.cell? ⟨b, i, Option.none⟩ = Option.some (.int .i64 (K i)) ∧ ∀ o, u.frozen? ⟨b, o, Option.none⟩ = false := by
  rcases h.2 with ⟨_, h2⟩ | ⟨g, cap', cur, e2, h3, hh, h4, _, h6, h7⟩
  · omega
  · cases e2
    obtain ⟨b, off, e, hc⟩ := h.row (by omega)
    cases e
    have := hc i hi
    rw [Nat.zero_add] at this
    exact ⟨g, rfl, this, fun o => by simp [World.frozen?, hh]⟩

/-- how many are left of the first l without the j-th -/
def lft (j l : Nat) : Nat := if l ≤ j then l else l - 1
theorem lft_zero (j : Nat) : lft j 0 = 0 := by simp [lft]
theorem lft_same (j : Nat) : lft j (j + 1) = lft j j := by simp [lft]
theorem lft_succ {j l : Nat} (h : l ≠ j) : lft j (l + 1) = lft j l + 1 := by unfold lft; split <;> split <;> omega
theorem lft_all {j n : Nat} (h : j < n) : lft j n = n - 1 := by unfold lft; split <;> omega
theorem lft_le (j l : Nat) : lft j l ≤ l := by unfold lft; split <;> omega
theorem rmF_at (f : Nat → Int) {j l : Nat} (h : l ≠ j) : rmF f j (lft j l) = f l := by
  unfold rmF lft
  by_cases c : l ≤ j
  · rw [if_pos c, if_pos (by omega)]
  · rw [if_neg c, if_neg (by omega)]
    congr 1; omega
theorem rmF_up (f : Nat → Int) {j l : Nat} (h : l ≠ j) : ∀ i, i < lft j l + 1 → upF (rmF f j) (lft j l) (f l) i = rmF f j i := fun i hi => by
  unfold upF
  split
  · rename_i e; rw [e, rmF_at f h]
  · rfl
end Go.Proofs.Ytiidepafifodjaa
