import Derived.Test.YtiidepafifodjaaDoorHrG
/-! Lists that are read: plain. -/
namespace Go.Proofs.YtiidepafifodjaaDoor
open Go.RowKit

section
variable {α : Type}
def lsL (eL : α → List UInt8) : List α → List UInt8
  | [] => []
  | s :: y => eL s ++ lsL eL y
/-- what an element's reader answers -/
structure HeIs (eL : α → List UInt8) (ok : α → Prop) (r : List UInt8) (f : Bool) (s : α) (r' : List UInt8) (f' : Bool) : Prop where
  g : ok s
  le : r'.length ≤ r.length
  b : f = true → f' = true
  st : f' = false → r'.length < r.length
  x : ∀ s0 t, r = eL s0 ++ t → ok s0 → f = false → s = s0 ∧ r' = t ∧ f' = f
/-- a list's reader at work -/
structure LsI (eL : α → List UInt8) (ok : α → Prop) (r : List UInt8) (f : Bool) (n : Int) (xs : List α) (rk : List UInt8) (fk : Bool) : Prop where
  a : rk.length ≤ r.length
  b : f = true → fk = true
  c : fk = false → xs.length + rk.length < r.length
  d : xs.length ≤ r.length
  x : ∀ x0 t, r = numL x0.length ++ (lsL eL x0 ++ t) → (∀ s ∈ x0, ok s) → x0.length ≤ 1048576 → f = false → n = x0.length ∧ fk = false ∧ ∃ y, x0 = xs ++ y ∧ rk = lsL eL y ++ t
  z : r = [] → xs = [] ∧ rk = [] ∧ fk = true
  o : ∀ s ∈ xs, ok s
  i : I64r n
/-- what a list's reader answers -/
structure HlIs (eL : α → List UInt8) (ok : α → Prop) (r : List UInt8) (f : Bool) (xs : List α) (r' : List UInt8) (f' : Bool) : Prop where
  le : r'.length ≤ r.length
  b : f = true → f' = true
  d : xs.length ≤ r.length
  x : ∀ x0 t, r = numL x0.length ++ (lsL eL x0 ++ t) → (∀ s ∈ x0, ok s) → x0.length ≤ 1048576 → f = false → xs = x0 ∧ r' = t ∧ f' = false
  z : r = [] → xs = [] ∧ r' = [] ∧ f' = true
  o : ∀ s ∈ xs, ok s
variable {eL : α → List UInt8} {ok : α → Prop} {r r' : List UInt8} {f f' : Bool} {n : Int}
theorem LsI.start (h : HnIs r f n r' f') : LsI eL ok r f n [] r' f' :=
  ⟨h.le, h.b, fun e => by have := h.s e; simp; omega, by simp, fun x0 t e _ hn hf => by
    obtain ⟨e1, e2, e3⟩ := h.x _ _ e (by unfold I64r; omega)
    exact ⟨e1, by rw [e3, hf], x0, rfl, e2⟩, fun e => ⟨rfl, (h.z e).2⟩, fun s hs => (by cases hs), h.i⟩
theorem LsI.next {xs : List α} {rk : List UInt8} {s : α} (h : LsI eL ok r f n xs rk false) (he : HeIs eL ok rk false s r' f') (hm : 0 < n - (xs.length : Int)) : LsI eL ok r f n (xs ++ [s]) r' f' := by
  have hc := h.c rfl
  have hle := he.le
  refine ⟨by have := h.a; omega, fun e => absurd (h.b e) (by decide), fun e => ?_, ?_, fun x0 t e hok hn hf => ?_, fun e => ?_, fun q hq => ?_, h.i⟩
  · have := he.st e
    simp
    omega
  · simp
    omega
  · obtain ⟨e1, _, y, e3, e4⟩ := h.x x0 t e hok hn hf
    cases y with
    | nil => rw [e3] at e1; simp at e1; omega
    | cons s0 y =>
      obtain ⟨a1, a2, a3⟩ := he.x s0 (lsL eL y ++ t) (by rw [e4]; simp [lsL]) (hok s0 (by rw [e3]; simp)) rfl
      subst a1
      exact ⟨e1, a3, y, by rw [e3]; simp, a2⟩
  · exact absurd (h.z e).2.2 (by decide)
  · rcases List.mem_append.1 hq with hq | hq
    · exact h.o q hq
    · rw [List.mem_singleton.1 hq]; exact he.g
theorem LsI.done {xs : List α} {rk : List UInt8} {fk : Bool} (h : LsI eL ok r f n xs rk fk) (hd : fk = true ∨ ¬ 0 < n - (xs.length : Int)) : HlIs eL ok r f xs rk fk := by
  refine ⟨h.a, h.b, h.d, fun x0 t e hok hn hf => ?_, h.z, h.o⟩
  obtain ⟨e1, e2, y, e3, e4⟩ := h.x x0 t e hok hn hf
  have hy : y = [] := by
    rcases hd with hd | hd
    · rw [e2] at hd; cases hd
    · apply List.eq_nil_of_length_eq_zero
      rw [e3] at e1
      simp at e1
      omega
  subst hy
  exact ⟨by rw [e3]; simp, by rw [e4]; rfl, e2⟩
end
/-- of texts and records -/
def okT (s : ByteArray) : Prop := s.size ≤ 1048576
def okR (d : RcD) : Prop := d.wf ∧ d.s.size ≤ 1048576
theorem HtIs.he {r r' : List UInt8} {f f' : Bool} {s : ByteArray} (h : HtIs r f s r' f') (hl : r.length ≤ 1048576) : HeIs txtL okT r f s r' f' :=
  ⟨by have := h.i; unfold okT; omega, h.le, h.b, h.st, fun s0 t e hs hf => h.x s0 t e hs hf⟩
theorem HcIs.he {r r' : List UInt8} {f f' : Bool} {d : RcD} (h : HcIs r f d r' f') (hl : r.length ≤ 1048576) : HeIs recL okR r f d r' f' :=
  ⟨⟨h.w, by have := h.i; omega⟩, h.le, h.b, h.st, fun s0 t e hs hf => h.x s0 t e hs.1 hs.2 hf⟩
end Go.Proofs.YtiidepafifodjaaDoor
