import Derived.Test.YtdialodjllpgaaaGreatDoorSpP
import Derived.Test.YtdialodjllpgaaaGreatDoorShF
import Derived.Test.YtdialodjllpgaaaGreatDoorUnB
import Derived.Deep.QuietTactic
import Derived.BigQuiet
import Derived.Deep.DeepCutAuto
import Derived.Test.YtdialodjllpgaaaGreatDoorInA
/-! The specification's check of a unit: what is in scope. -/
namespace Go.Proofs.YtdialodjllpgaaaGreatDoor
open Go.RowKit
attribute [local go_sem] run_store_float
attribute [local go_sem ↓] Go.wp_at_zero Go.wp_at_succ

/-- a fn whose nodes are right, with its parents at P -/
structure TS (L : Nat) (w : World) (d : FD) (x : FA) (P : Nat) : Prop where
  fn : FnAt L w d x
  par : IntsAt L w (some ⟨P, 0, none⟩) d.nn (parP d.nd d.nn)
structure FdOk (d : FD) : Prop where
  tree : TreeOk d.nd d.nn
  shf : ∀ i, i < d.nn → ShF d.nd i
  sm : d.sm
  nn : d.nn ≤ 3000
abbrev treeC (P D n : Nat) : Array Value := #[.slice (some ⟨P, 0, none⟩) n n, .slice (some ⟨D, 0, none⟩) n n]
abbrev treeV (P D n : Nat) : Value := .agg #[.slice (some ⟨P, 0, none⟩) n n, .slice (some ⟨D, 0, none⟩) n n]

theorem cell_later {w wx : World} {q : Addr} {v : Value} (hb : Below w.heap.size w wx) (h : w.cell? q = some v) : wx.cell? q = some v := by
  have hq : q.block < w.heap.size := by
    refine Nat.lt_of_not_le fun hle => ?_
    have : w.heap[q.block]? = none := Array.getElem?_eq_none hle
    simp [World.cell?, this] at h
  rw [hb.cell hq]
  exact h
abbrev NS (B A b3 o3 b2 o2 m y : Nat) (d : FD) (x : FA) (kn kc : Nat) (w' : World) : Prop := w'.cell? ⟨B, 6, none⟩ = some (.slice (some ⟨b3, o3, none⟩) d.nn x.nc) ∧ w'.cell? ⟨A, 7, none⟩ = some (.slice (some ⟨b2, o2, none⟩) kn kc) ∧ w'.cell? ⟨b2, o2 + m, none⟩ = some (.int .i64 (y : Int)) ∧ w'.cell? ⟨b3, o3 + y * 8, none⟩ = some (.int .i64 (d.nd y).k) ∧ w'.cell? ⟨b3, o3 + y * 8 + 1, none⟩ = some (.int .i64 (d.nd y).l) ∧ w'.cell? ⟨b3, o3 + y * 8 + 2, none⟩ = some (.int .i64 (d.nd y).o) ∧ w'.cell? ⟨b3, o3 + y * 8 + 3, none⟩ = some (.int .i64 (d.nd y).n) ∧ w'.cell? ⟨b3, o3 + y * 8 + 4, none⟩ = some (.float .f64 (d.nd y).f) ∧ w'.cell? ⟨b3, o3 + y * 8 + 5, none⟩ = some (.string (d.nd y).s) ∧ w'.cell? ⟨b3, o3 + y * 8 + 6, none⟩ = some (.slice (x.nas y).ra (d.nd y).rn (x.nas y).rc) ∧ w'.cell? ⟨b3, o3 + y * 8 + 7, none⟩ = some (.slice (x.nas y).ka (d.nd y).kn (x.nas y).kc)
theorem below_a' {a w : World} (h : Below a.heap.size a w) (o : Obj) : Below a.heap.size a (w.alloc o) := h.alloc h.size _

end Go.Proofs.YtdialodjllpgaaaGreatDoor

/-! The specification's check of a unit: a fn's head. -/
namespace Go.Proofs.YtdialodjllpgaaaGreatDoor
open Go.RowKit
attribute [local go_sem] run_store_float
attribute [local go_sem ↓] Go.wp_at_zero Go.wp_at_succ

def nmB (s : ByteArray) (l : Int) : Bool := decide (l ≤ (s.size : Int)) && decide ((s.size : Int) ≤ 40)
abbrev ftV (x : FT) : Value := .agg #[.int .i64 x.c, .int .i64 x.f, .int .i64 x.n]
end Go.Proofs.YtdialodjllpgaaaGreatDoor

/-! The specification's check of a unit: refs. -/
namespace Go.Proofs.YtdialodjllpgaaaGreatDoor
open Go.RowKit
attribute [local go_sem] run_store_float
attribute [local go_sem ↓] Go.wp_at_zero Go.wp_at_succ

theorem seenV_succ {d : FD} {x k : Nat} {v : Int} : SeenV d x (k + 1) v ↔ SeenV d x k v ∨ (d.nd x).r k = v := by
  unfold SeenV
  constructor
  · rintro (h | h | ⟨b, hb, h⟩)
    · exact .inl (.inl h)
    · exact .inl (.inr (.inl h))
    · by_cases e : b = k
      · subst e; exact .inr h
      · exact .inl (.inr (.inr ⟨b, by omega, h⟩))
  · rintro ((h | h | ⟨b, hb, h⟩) | h)
    · exact .inl h
    · exact .inr (.inl h)
    · exact .inr (.inr ⟨b, by omega, h⟩)
    · exact .inr (.inr ⟨k, by omega, h⟩)
theorem seenV_next {d : FD} {x : Nat} {v : Int} : SeenV d (x + 1) 0 v ↔ SeenV d x 0 v ∨ (DeclK (d.nd x).k ∧ RefIn (d.nd x) v) := by
  unfold SeenV
  constructor
  · rintro (h | ⟨m, hm, h⟩ | ⟨b, hb, h⟩)
    · exact .inl (.inl h)
    · by_cases e : m = x
      · subst e; exact .inr h
      · exact .inl (.inr (.inl ⟨m, by omega, h⟩))
    · omega
  · rintro ((h | ⟨m, hm, h⟩ | ⟨b, hb, h⟩) | h)
    · exact .inl h
    · exact .inr (.inl ⟨m, by omega, h⟩)
    · omega
    · exact .inr (.inl ⟨x, by omega, h⟩)
theorem seenV_all {d : FD} {x : Nat} {v : Int} : SeenV d x (d.nd x).rn v ↔ SeenV d x 0 v ∨ RefIn (d.nd x) v := by
  unfold SeenV RefIn
  constructor
  · rintro (h | h | h)
    · exact .inl (.inl h)
    · exact .inl (.inr (.inl h))
    · exact .inr h
  · rintro ((h | h | ⟨b, hb, h⟩) | h)
    · exact .inl h
    · exact .inr (.inl h)
    · omega
    · exact .inr (.inr h)
/-- the row of what has been declared -/
def SeenRow (w : World) (B : Nat) (d : FD) (x k : Nat) : Prop := w.rowIs B 4 d.vn (fun i => .bool (dB (SeenV d x k i)))
theorem SeenRow.below {w w' : World} {B : Nat} {d : FD} {x k : Nat} (h : SeenRow w B d x k) (hb : Below w.heap.size w w') : SeenRow w' B d x k := World.rowIs.of_block h (hb.block _ h.lt)
theorem SeenRow.congr {w : World} {B : Nat} {d : FD} {x k x' k' : Nat} (h : SeenRow w B d x k) (e : ∀ v : Nat, SeenV d x k v ↔ SeenV d x' k' v) : SeenRow w B d x' k' := World.rowIs.congr h fun i _ => by
  by_cases c : SeenV d x k i
  · rw [dB_true c, dB_true ((e i).1 c)]
  · rw [dB_false c, dB_false fun c' => c ((e i).2 c')]
theorem SeenRow.set {w : World} {B : Nat} {d : FD} {x k : Nat} (h : SeenRow w B d x k) {y : Nat} (hy : (d.nd x).r k = y) : SeenRow (w.setCell ⟨B, y, none⟩ (.bool true)) B d x (k + 1) := (World.rowIs.set h y (.bool true)).congr fun i _ => by
  by_cases e : i = y
  · rw [if_pos e, dB_true (seenV_succ.2 (.inr (by rw [hy, e])))]
  · rw [if_neg e]
    by_cases c : SeenV d x k i
    · rw [dB_true c, dB_true (seenV_succ.2 (.inl c))]
    · rw [dB_false c, dB_false fun c' => (seenV_succ.1 c').elim c fun h => e (by omega)]

/-- what a node's refs and the row become -/
def RefsSays (u : UD) (f x B : Nat) (w w' : World) (b : Bool) : Prop := b = dB (RefsOk u f x) ∧ (b = true → SeenRow w' B (u.fn f) (x + 1) 0) ∧ Below B w w'

def RefsPost (u : UD) (f x B : Nat) (w : World) (e : Ending) (w' : World) : Prop := ∃ b, e = .returned (.bool b) ∧ RefsSays u f x B w w' b
theorem Has.far {w : World} {B : Nat} {A : Array Value} (h : Has w B A) {p : Addr} (hp : p.block ≠ B) (v : Value) : Has (w.setCell p v) B A :=
  ⟨by have := h.1; simpa using this, fun o => (World.cell?_setCell_far w p ⟨B, o, none⟩ v hp).trans (h.2 o)⟩
end Go.Proofs.YtdialodjllpgaaaGreatDoor

/-! The specification's check of a unit: a fn's head. -/
namespace Go.Proofs.YtdialodjllpgaaaGreatDoor
open Go.RowKit
attribute [local go_sem] run_store_float
attribute [local go_sem ↓] Go.wp_at_zero Go.wp_at_succ

end Go.Proofs.YtdialodjllpgaaaGreatDoor

/-! The specification's check of a unit: a fn's head. -/
namespace Go.Proofs.YtdialodjllpgaaaGreatDoor
open Go.RowKit
attribute [local go_sem] run_store_float
attribute [local go_sem ↓] Go.wp_at_zero Go.wp_at_succ

end Go.Proofs.YtdialodjllpgaaaGreatDoor

/-! Inputs: when one is valid, by the specification and by the program. -/
namespace Go.Proofs.YtdialodjllpgaaaGreatDoor
open Go.RowKit
attribute [local go_sem] run_store_float
attribute [local go_sem ↓] Go.wp_at_zero Go.wp_at_succ

def lstOk (n : Nat) (q : Nat → ByteArray) : Prop := n ≤ 200 ∧ ∀ i, i < n → (q i).size ≤ 4000
def numOk (d : ID) : Prop := (0 ≤ d.t ∧ d.t ≤ 5000) ∧ (1 ≤ d.d ∧ d.d ≤ 60) ∧ (0 ≤ d.c ∧ d.c ≤ 20000)
/-- an input is valid -/
def okI (d : ID) : Prop := lstOk d.an d.a ∧ lstOk d.ln d.l ∧ numOk d
def InSays (d : ID) (e : Ending) : Prop := ∃ b, e = .returned (.bool b) ∧ (b = true ↔ okI d)
theorem InSays.no {d : ID} (h : ¬ okI d) : InSays d (.returned (.bool false)) := ⟨_, rfl, by simp [h]⟩
theorem InSays.num {d : ID} {b : Bool} (h : lstOk d.an d.a) (h' : lstOk d.ln d.l) (e : b = true ↔ numOk d) : InSays d (.returned (.bool b)) := ⟨_, rfl, e.trans ⟨fun k => ⟨h, h', k⟩, fun k => k.2.2⟩⟩

abbrev inW (w : World) (d : ID) (x : IA) : World := w.alloc (.cells (inC d x) 34)

end Go.Proofs.YtdialodjllpgaaaGreatDoor
