import Derived.Test.YtiidepafifodjaaDoorHrJ
/-! Reports that are read: plain. -/
namespace Go.Proofs.YtiidepafifodjaaDoor
open Go.RowKit

/-- a report, with its lists -/
structure RpL where
  code : Int
  ti : Int
  ma : Int
  xs : List RcD
  vs : List ByteArray
  er : ByteArray
  tr : ByteArray
def RpL.zero : RpL := ⟨0, 0, 0, [], [], ⟨#[]⟩, ⟨#[]⟩⟩
def RpL.d (p : RpL) : RpD := { code := p.code, n := p.xs.length, rc := fun i => p.xs.getD i default, m := p.vs.length, v := fun i => p.vs.getD i ⟨#[]⟩, er := p.er, tr := p.tr, ti := p.ti, ma := p.ma }
structure RpL.ok (p : RpL) : Prop where
  c : I64r p.code
  i : I64r p.ti
  m : I64r p.ma
  x : ∀ s ∈ p.xs, okR s
  xn : p.xs.length ≤ 1048576
  v : ∀ s ∈ p.vs, okT s
  vn : p.vs.length ≤ 1048576
  e : p.er.size ≤ 1048576
  t : p.tr.size ≤ 1048576
def RpL.tell (p : RpL) : List UInt8 := numL p.code ++ (numL p.ti ++ (numL p.ma ++ (numL p.xs.length ++ (lsL recL p.xs ++ (numL p.vs.length ++ (lsL txtL p.vs ++ (txtL p.er ++ (txtL p.tr ++ []))))))))
theorem lsL_app {α : Type} (eL : α → List UInt8) : ∀ xs ys : List α, lsL eL (xs ++ ys) = lsL eL xs ++ lsL eL ys
  | [], _ => rfl
  | s :: r, ys => by simp only [List.cons_append, lsL, lsL_app eL r ys, List.append_assoc]
theorem recsL_r (q : Nat → RcD) : ∀ n, recsL q n = lsL recL ((List.range n).map q)
  | 0 => rfl
  | n + 1 => by rw [List.range_succ, List.map_append, lsL_app, ← recsL_r q n]; simp [recsL, lsL]
theorem txtsL_r (q : Nat → ByteArray) : ∀ n, txtsL q n = lsL txtL ((List.range n).map q)
  | 0 => rfl
  | n + 1 => by rw [List.range_succ, List.map_append, lsL_app, ← txtsL_r q n]; simp [txtsL, lsL]
theorem range_getD {α : Type} (xs : List α) (z : α) : (List.range xs.length).map (fun i => xs.getD i z) = xs := by
  apply List.ext_getElem
  · simp
  · intro i h1 h2
    simp [List.getD_eq_getElem?_getD, List.getElem?_eq_getElem h2]
theorem RpL.tell_d (p : RpL) : tellL p.d = p.tell := by
  unfold tellL RpL.tell
  have h1 : recsL p.d.rc p.d.n = lsL recL p.xs := (recsL_r _ _).trans (congrArg _ (range_getD p.xs default))
  have h2 : txtsL p.d.v p.d.m = lsL txtL p.vs := (txtsL_r _ _).trans (congrArg _ (range_getD p.vs _))
  rw [h1, h2]
  simp only [List.append_assoc, List.append_nil]
  rfl
theorem getD_ok {α : Type} {P : α → Prop} {xs : List α} {z : α} (h : ∀ s ∈ xs, P s) {i : Nat} (hi : i < xs.length) : P (xs.getD i z) := by
  rw [List.getD_eq_getElem?_getD, List.getElem?_eq_getElem hi]
  exact h _ (List.getElem_mem hi)
theorem RpL.ok.sm {p : RpL} (h : p.ok) : p.d.sm := ⟨h.xn, fun _ hi => (getD_ok h.x hi).2, h.vn, fun _ hi => getD_ok h.v hi, h.e, h.t⟩
/-- what is heard of bytes -/
structure HearIs (l : List UInt8) (p : RpL) : Prop where
  x : ∀ p0 : RpL, p0.ok → p0.tell = l → l.length ≤ 1000000 → p = p0
  z : (¬ ∃ p0 : RpL, p0.ok ∧ p0.tell = l ∧ l.length ≤ 1000000) → p = RpL.zero
theorem HearIs.uniq {l : List UInt8} {p q : RpL} (h : HearIs l p) (k : HearIs l q) : p = q := by
  by_cases c : ∃ p0 : RpL, p0.ok ∧ p0.tell = l ∧ l.length ≤ 1000000
  · obtain ⟨p0, h1, h2, h3⟩ := c
    rw [h.x p0 h1 h2 h3, k.x p0 h1 h2 h3]
  · rw [h.z c, k.z c]
/-- what the program's reader reads of bytes -/
structure HpIs (l : List UInt8) (p : RpL) : Prop where
  k : p.ok
  x : ∀ p0 : RpL, p0.ok → p0.tell = l → p = p0
  z : l = [] → p = RpL.zero
theorem hp_is {l r1 r2 r3 r4 r5 r6 r7 : List UInt8} {f1 f2 f3 f4 f5 f6 f7 : Bool} {c i m : Int} {xs : List RcD} {vs : List ByteArray} {e t : ByteArray} (hl : l.length ≤ 1048576) (h1 : HnIs l false c r1 f1) (h2 : HnIs r1 f1 i r2 f2) (h3 : HnIs r2 f2 m r3 f3) (h4 : HlIs recL okR r3 f3 xs r4 f4) (h5 : HlIs txtL okT r4 f4 vs r5 f5) (h6 : HtIs r5 f5 e r6 f6) (h7 : HtIs r6 f6 t r7 f7) : HpIs l ⟨c, i, m, xs, vs, e, t⟩ := by
  have l1 := h1.le
  have l2 := h2.le
  have l3 := h3.le
  have l4 := h4.le
  have l5 := h5.le
  have l6 := h6.le
  have x4 := h4.d
  have x5 := h5.d
  have x6 := h6.i
  have x7 := h7.i
  refine ⟨⟨h1.i, h2.i, h3.i, h4.o, by show xs.length ≤ _; omega, h5.o, by show vs.length ≤ _; omega, by show e.size ≤ _; omega, by show t.size ≤ _; omega⟩, fun p0 hk ht => ?_, fun hz => ?_⟩
  · obtain ⟨c0, i0, m0, xs0, vs0, e0, t0⟩ := p0
    unfold RpL.tell at ht
    obtain ⟨a1, b1, g1⟩ := h1.x _ _ ht.symm hk.c
    obtain ⟨a2, b2, g2⟩ := h2.x _ _ b1 hk.i
    obtain ⟨a3, b3, g3⟩ := h3.x _ _ b2 hk.m
    obtain ⟨a4, b4, g4⟩ := h4.x xs0 _ b3 hk.x hk.xn (by rw [g3, g2, g1])
    obtain ⟨a5, b5, g5⟩ := h5.x vs0 _ b4 hk.v hk.vn g4
    obtain ⟨a6, b6, g6⟩ := h6.x _ _ b5 hk.e g5
    obtain ⟨a7, b7, g7⟩ := h7.x _ _ b6 hk.t (by rw [g6, g5])
    subst a1 a2 a3 a4 a5 a6 a7
    rfl
  · obtain ⟨a1, b1, _⟩ := h1.z hz
    obtain ⟨a2, b2, _⟩ := h2.z b1
    obtain ⟨a3, b3, _⟩ := h3.z b2
    obtain ⟨a4, b4, _⟩ := h4.z b3
    obtain ⟨a5, b5, _⟩ := h5.z b4
    obtain ⟨a6, b6, _⟩ := h6.z b5
    obtain ⟨a7, b7, _⟩ := h7.z b6
    subst a1 a2 a3 a4 a5 a6 a7
    rfl
theorem hp_flag {l r1 r2 r3 r4 r5 r6 r7 : List UInt8} {f1 f2 f3 f4 f5 f6 f7 : Bool} {c i m : Int} {xs : List RcD} {vs : List ByteArray} {e t : ByteArray} (h1 : HnIs l false c r1 f1) (h2 : HnIs r1 f1 i r2 f2) (h3 : HnIs r2 f2 m r3 f3) (h4 : HlIs recL okR r3 f3 xs r4 f4) (h5 : HlIs txtL okT r4 f4 vs r5 f5) (h6 : HtIs r5 f5 e r6 f6) (h7 : HtIs r6 f6 t r7 f7) (p0 : RpL) (hk : p0.ok) (ht : p0.tell = l) : f7 = false := by
  obtain ⟨c0, i0, m0, xs0, vs0, e0, t0⟩ := p0
  unfold RpL.tell at ht
  obtain ⟨a1, b1, g1⟩ := h1.x _ _ ht.symm hk.c
  obtain ⟨a2, b2, g2⟩ := h2.x _ _ b1 hk.i
  obtain ⟨a3, b3, g3⟩ := h3.x _ _ b2 hk.m
  obtain ⟨a4, b4, g4⟩ := h4.x xs0 _ b3 hk.x hk.xn (by rw [g3, g2, g1])
  obtain ⟨a5, b5, g5⟩ := h5.x vs0 _ b4 hk.v hk.vn g4
  obtain ⟨a6, b6, g6⟩ := h6.x _ _ b5 hk.e g5
  obtain ⟨a7, b7, g7⟩ := h7.x _ _ b6 hk.t (by rw [g6, g5])
  rw [g7, g6, g5]
/-- the specification's way to hold it against the bytes -/
theorem hear_spec {l : List UInt8} {p : RpL} {bad : Bool} (h : HpIs l p) (hb : ∀ p0 : RpL, p0.ok → p0.tell = l → bad = false) (hl : l.length ≤ 1000000) : HearIs l (if bad = false ∧ tellL p.d = l then p else RpL.zero) := by
  refine ⟨fun p0 hk ht _ => ?_, fun hn => ?_⟩
  · have e := h.x p0 hk ht
    subst e
    rw [if_pos ⟨hb p hk ht, by rw [RpL.tell_d, ht]⟩]
  · by_cases c : bad = false ∧ tellL p.d = l
    · have c2 := c.2
      rw [RpL.tell_d] at c2
      exact absurd ⟨p, h.k, c2, hl⟩ hn
    · rw [if_neg c]
theorem hear_long {l : List UInt8} (hl : 1000000 < l.length) : HearIs l RpL.zero := ⟨fun _ _ _ h => by omega, fun _ => rfl⟩
/-- what was read is held against the bytes -/
theorem hear_of {l : List UInt8} {p : RpL} (h : HpIs l p) : HearIs l (if toldL p.d = l then p else RpL.zero) := by
  refine ⟨fun p0 hk ht hl => ?_, fun hn => ?_⟩
  · have e := h.x p0 hk ht
    subst e
    rw [if_pos]
    unfold toldL
    rw [RpL.tell_d, ht, if_neg (by omega)]
  · by_cases c : toldL p.d = l
    · rw [if_pos c]
      unfold toldL at c
      rw [RpL.tell_d] at c
      by_cases c2 : 1000000 < p.tell.length
      · rw [if_pos c2] at c
        exact h.z c.symm
      · rw [if_neg c2] at c
        exact absurd ⟨p, h.k, c, by rw [← c]; omega⟩ hn
    · rw [if_neg c]
end Go.Proofs.YtiidepafifodjaaDoor
