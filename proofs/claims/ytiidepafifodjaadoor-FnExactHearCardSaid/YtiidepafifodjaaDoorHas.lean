import Derived.Test.YtiidepafifodjaaDoorSet
/-! What a local holds, carried over calls. -/
namespace Go.Proofs.YtiidepafifodjaaDoor
open Go.RowKit

/-- block B of the world holds these cells -/
def Has (w : World) (B : Nat) (A : Array Value) : Prop := B < w.heap.size ∧ ∀ o, w.cell? ⟨B, o, none⟩ = A[o]?

theorem Has.lt {w : World} {B : Nat} {A : Array Value} (h : Has w B A) : B < w.heap.size := h.1
theorem Has.at {w : World} {B : Nat} {A : Array Value} (h : Has w B A) : ∀ o, w.cell? ⟨B, o, none⟩ = A[o]? := h.2
theorem Has.call {u w : World} {B : Nat} {A : Array Value} (h : Has u B A) (hb : Below u.heap.size u w) : Has w B A :=
  ⟨Nat.lt_of_lt_of_le h.1 hb.size, fun o => (hb.cell (p := ⟨B, o, none⟩) h.1).trans (h.2 o)⟩
theorem Has.new (w : World) (A : Array Value) (t : TypeId) : Has (w.alloc (.cells A t)) w.heap.size A :=
  ⟨by simp, fun o => World.cell?_alloc_new w A t o⟩
theorem Has.alloc {w : World} {B : Nat} {A : Array Value} (h : Has w B A) (o : Obj) : Has (w.alloc o) B A :=
  ⟨by have := h.1; simp; omega, fun i => (World.cell?_alloc_lt w o ⟨B, i, none⟩ h.1).trans (h.2 i)⟩
theorem Has.drew {w : World} {B : Nat} {A : Array Value} (h : Has w B A) : Has w.drew B A := h
theorem Has.next {u w : World} {B : Nat} {A : Array Value} {o : Obj} (h : Has u B A) (hb : Below (u.alloc o).heap.size (u.alloc o) w) : Has w B A := (h.alloc o).call hb
theorem Has.made {u w : World} {A : Array Value} {t : TypeId} (hb : Below (u.alloc (.cells A t)).heap.size (u.alloc (.cells A t)) w) : Has w u.heap.size A := (Has.new u A t).call hb
end Go.Proofs.YtiidepafifodjaaDoor
