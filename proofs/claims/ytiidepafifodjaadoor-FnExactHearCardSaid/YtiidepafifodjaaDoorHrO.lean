import Derived.Test.YtiidepafifodjaaDoorHrC
import Derived.Test.YtiidepafifodjaaDoorHrK
import Derived.Test.YtiidepafifodjaaDoorHrN
/-! The specification's reader, in the words of the program's. -/
namespace Go.Proofs.YtiidepafifodjaaDoor
open Go.RowKit
attribute [local go_sem] run_store_float
attribute [local go_sem ↓] Go.wp_at_zero Go.wp_at_succ

theorem NumIs.hn {l : List UInt8} {p : Nat} {bad : Bool} {n : Int} {p' : Nat} {bad' : Bool} (h : NumIs l p bad n p' bad') : HnIs (l.drop p) bad n (l.drop p') bad' := by
  have h1 := h.le
  have h2 := h.lt
  refine ⟨h.r, by simp only [List.length_drop]; omega, h.b, fun e => by have := h.s e; simp only [List.length_drop]; omega, fun n0 t e h0 => ?_, fun e => ?_⟩
  · obtain ⟨e1, e2, e3⟩ := h.x n0 t e h0
    exact ⟨e1, by rw [e2, ← List.drop_drop, e, List.drop_left], e3⟩
  · have hp : l.length ≤ p := List.drop_eq_nil_iff.1 e
    refine ⟨h.zz (by omega), List.drop_eq_nil_iff.2 (by omega), ?_⟩
    cases hb : bad' with
    | true => rfl
    | false => have := h.s hb; omega
theorem TxtIs.ht {l : List UInt8} {p : Nat} {bad : Bool} {s : ByteArray} {p' : Nat} {bad' : Bool} (h : TxtIs l p bad s p' bad') : HtIs (l.drop p) bad s (l.drop p') bad' := by
  have h1 := h.le
  have h2 := h.lt
  have h3 := h.r
  refine ⟨by rw [List.length_drop]; exact h3, by simp only [List.length_drop]; omega, h.b, fun e => by have := h.st e; simp only [List.length_drop]; omega, fun s0 t e hs hb => ?_, fun e => ?_⟩
  · obtain ⟨e1, e2, e3⟩ := h.x s0 t e hs hb
    exact ⟨e1, by rw [e2, ← List.drop_drop, e, List.drop_left], by rw [e3, hb]⟩
  · have hp : l.length ≤ p := List.drop_eq_nil_iff.1 e
    refine ⟨?_, List.drop_eq_nil_iff.2 (by omega), ?_⟩
    · obtain ⟨d⟩ := s
      have : d.size = 0 := by show (⟨d⟩ : ByteArray).size = 0; omega
      rw [Array.eq_empty_of_size_eq_zero this]
    · cases hb : bad' with
      | true => rfl
      | false => have := h.st hb; omega
abbrev zR : Array Value := #[.int .i64 0, .slice none 0 0, .slice none 0 0, .string ⟨#[]⟩, .string ⟨#[]⟩, .int .i64 0, .int .i64 0]
/-- the reader, the report that is made, the answer's box -/
structure SX (w : World) (a : Option Addr) (cap : Nat) (l : List UInt8) (A : Array Value) (u : World) (p : Nat) (bad : Bool) : Prop where
  rd : RdX (w.heap.size + 1) a l.length cap p bad u
  ob : u.heap[w.heap.size + 2]? = some (.cells A 31 (0, 0))
  rb : u.heap[w.heap.size]? = some (.cells zR 31 (0, 0))
  b : Below w.heap.size w u
  y : ByAt 0 w a l
  ne : ∀ b, a = some b → b.block < w.heap.size
  lt : p ≤ l.length
section
variable {w : World} {a : Option Addr} {cap : Nat} {l : List UInt8} {A : Array Value} {u u' : World} {p p' : Nat} {bad bad' : Bool}
theorem SX.sz (h : SX w a cap l A u p bad) : w.heap.size + 2 < u.heap.size := (Array.getElem?_eq_some_iff.1 h.ob).1
theorem SX.by' (h : SX w a cap l A u p bad) : ByAt 0 u a l := RowN.below h.y h.b
theorem SX.neR (h : SX w a cap l A u p bad) : ∀ b, a = some b → ¬ b.block = w.heap.size + 1 := fun b e => by have := h.ne b e; omega
theorem SX.read (h : SX w a cap l A u p bad) (hr : RdX (w.heap.size + 1) a l.length cap p' bad' u') (hg : Gx (fun k => k = w.heap.size + 1) u u') (hp : p' ≤ l.length) : SX w a cap l A u' p' bad' :=
  ⟨hr, (hg.block _ h.sz (by show ¬ _ = _; omega)).trans h.ob, (hg.block _ (by have := h.sz; omega) (by show ¬ _ = _; omega)).trans h.rb, h.b.trans (hg.to (by have := h.sz; omega) (fun k (e : k = _) => by omega)), h.y, h.ne, hp⟩
theorem SX.other (h : SX w a cap l A u p bad) {X : Nat} (hg : Gx (fun k => k = X) u u') (hX : w.heap.size + 2 < X) : SX w a cap l A u' p bad :=
  ⟨(hg.block _ (by have := h.sz; omega) (by show ¬ _ = _; omega)).trans h.rd, (hg.block _ h.sz (by show ¬ _ = _; omega)).trans h.ob, (hg.block _ (by have := h.sz; omega) (by show ¬ _ = _; omega)).trans h.rb, h.b.trans (hg.to (by have := h.sz; omega) (fun k (e : k = _) => by omega)), h.y, h.ne, h.lt⟩
theorem SX.call (h : SX w a cap l A u p bad) (hb : Below u.heap.size u u') : SX w a cap l A u' p bad :=
  ⟨(hb.block _ (by have := h.sz; omega)).trans h.rd, (hb.block _ h.sz).trans h.ob, (hb.block _ (by have := h.sz; omega)).trans h.rb, below_call h.b hb, h.y, h.ne, h.lt⟩
theorem SX.grown (h : SX w a cap l A u p bad) {o : Option Nat} (hg : u.grownBy u' o) (hn : ∀ k, o = some k → w.heap.size + 2 < k) : SX w a cap l A u' p bad :=
  ⟨(hg.block _ (by have := h.sz; omega) (fun e => by have := hn _ e.symm; omega)).trans h.rd, (hg.block _ h.sz (fun e => by have := hn _ e.symm; omega)).trans h.ob, (hg.block _ (by have := h.sz; omega) (fun e => by have := hn _ e.symm; omega)).trans h.rb, h.b.grown hg (by have := h.sz; omega) (fun k e => by have := hn k e; omega), h.y, h.ne, h.lt⟩
theorem SX.set (h : SX w a cap l A u p bad) (i : Nat) (v : Value) : SX w a cap l (A.setIfInBounds i v) (u.setCell ⟨w.heap.size + 2, i, none⟩ v) p bad := by
  have hg := Gx.set u (w.heap.size + 2) i v
  refine ⟨(hg.block _ (by have := h.sz; omega) (by show ¬ _ = _; omega)).trans h.rd, ?_, (hg.block _ (by have := h.sz; omega) (by show ¬ _ = _; omega)).trans h.rb, h.b.trans (hg.to (by have := h.sz; omega) (fun k (e : k = _) => by omega)), h.y, h.ne, h.lt⟩
  have hb := h.ob
  simp [World.setCell, Array.getElem?_modify, hb]
theorem SX.oc (h : SX w a cap l A u p bad) (o : Nat) : u.cell? ⟨w.heap.size + 2, o, none⟩ = A[o]? := by simp [World.cell?, h.ob]
theorem SX.of (h : SX w a cap l A u p bad) (o : Nat) : u.frozen? ⟨w.heap.size + 2, o, none⟩ = false := by simp [World.frozen?, h.ob]
theorem SX.rc (h : SX w a cap l A u p bad) (o : Nat) : u.cell? ⟨w.heap.size, o, none⟩ = zR[o]? := by simp [World.cell?, h.rb]
theorem SX.rf (h : SX w a cap l A u p bad) (o : Nat) : u.frozen? ⟨w.heap.size, o, none⟩ = false := by simp [World.frozen?, h.rb]
end
theorem SX.start {w : World} {a : Option Addr} {cap : Nat} {l : List UInt8} (hy : ByAt 0 w a l) (hne : ∀ b, a = some b → b.block < w.heap.size) : SX w a cap l zR (((w.alloc (.cells zR 31)).alloc (.cells #[.slice a l.length cap, .int .i64 0, .bool false] 56)).alloc (.cells zR 31)) 0 false := by
  have e1 : (w.alloc (.cells zR 31)).heap.size = w.heap.size + 1 := by simp
  have e2 : ((w.alloc (.cells zR 31)).alloc (.cells #[.slice a l.length cap, .int .i64 0, .bool false] 56)).heap.size = w.heap.size + 2 := by simp
  have h1 := (MapKept.heap_alloc w (.cells zR 31)).1
  have h2 := (MapKept.heap_alloc (w.alloc (.cells zR 31)) (.cells #[.slice a l.length cap, .int .i64 0, .bool false] 56)).1
  have h3 := (MapKept.heap_alloc ((w.alloc (.cells zR 31)).alloc (.cells #[.slice a l.length cap, .int .i64 0, .bool false] 56)) (.cells zR 31)).1
  rw [e1] at h2
  rw [e2] at h3
  have b3 := below_alloc ((w.alloc (.cells zR 31)).alloc (.cells #[.slice a l.length cap, .int .i64 0, .bool false] 56)) (.cells zR 31)
  have b2 := below_alloc2 (w.alloc (.cells zR 31)) (.cells #[.slice a l.length cap, .int .i64 0, .bool false] 56) (.cells zR 31)
  exact ⟨(b3.block _ (by omega)).trans h2, h3, (b2.block _ (by omega)).trans h1, below_alloc3 _ _ _ _, hy, hne, Nat.zero_le _⟩
/-- the box of a record that is read -/
def XbP (X : Nat) (A : Array Value) (u : World) : Prop := u.heap[X]? = some (.cells A 49 (0, 0))
theorem XbP.set {X : Nat} {A : Array Value} {u : World} (h : XbP X A u) (i : Nat) (v : Value) : XbP X (A.setIfInBounds i v) (u.setCell ⟨X, i, none⟩ v) := by
  unfold XbP at *
  simp [World.setCell, Array.getElem?_modify, h]
theorem XbP.c {X : Nat} {A : Array Value} {u : World} (h : XbP X A u) (o : Nat) : u.cell? ⟨X, o, none⟩ = A[o]? := by unfold XbP at h; simp [World.cell?, h]
theorem XbP.f {X : Nat} {A : Array Value} {u : World} (h : XbP X A u) (o : Nat) : u.frozen? ⟨X, o, none⟩ = false := by unfold XbP at h; simp [World.frozen?, h]
end Go.Proofs.YtiidepafifodjaaDoor
