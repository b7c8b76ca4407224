import Derived.Test.YtdialodjllpgaaaGreatDoorSpQ
import Derived.Test.YtdialodjllpgaaaGreatDoorSpC
import Derived.Test.YtdialodjllpgaaaGreatDoorShF
import Derived.Test.YtdialodjllpgaaaGreatDoorTabN
/-! The specification's check of a unit: refs. -/
namespace Go.Proofs.YtdialodjllpgaaaGreatDoor
open Go.RowKit
attribute [local go_sem] run_store_float
attribute [local go_sem ↓] Go.wp_at_zero Go.wp_at_succ

/-- a node's cells, its refs given by themselves -/
abbrev nodeX (d : ND) (ra : Option Addr) (rn : Nat) (x : NA) : Array Value := #[.int .i64 d.k, .int .i64 d.l, .int .i64 d.o, .int .i64 d.n, .float .f64 d.f, .string d.s, .slice ra rn x.rc, .slice x.ka d.kn x.kc]

end Go.Proofs.YtdialodjllpgaaaGreatDoor

/-! The specification's check of a unit: refs that declare. -/
namespace Go.Proofs.YtdialodjllpgaaaGreatDoor
open Go.RowKit
attribute [local go_sem] run_store_float
attribute [local go_sem ↓] Go.wp_at_zero Go.wp_at_succ

end Go.Proofs.YtdialodjllpgaaaGreatDoor

/-! The specification's check of a unit: the first codes. -/
namespace Go.Proofs.YtdialodjllpgaaaGreatDoor
open Go.RowKit
attribute [local go_sem] run_store_float
attribute [local go_sem ↓] Go.wp_at_zero Go.wp_at_succ

/-- a fault comes back, the least of these -/
def FtPost (P : FT → Prop) (w : World) (e : Ending) (w' : World) : Prop := ∃ x : FT, e = .returned (ftV x) ∧ Least P x ∧ Below w.heap.size w w'

theorem FtPost.of {P : FT → Prop} {w w' : World} {x : FT} (h : Least P x) (hb : Below w.heap.size w w') : FtPost P w (.returned (ftV x)) w' := ⟨x, rfl, h, hb⟩

abbrev fxW (w : World) (u : UD) (a : Option Addr) (cap : Nat) : World := (w.alloc (.cells #[.slice a u.n cap] 31)).alloc (.cells #[.int .i64 0, .int .i64 0, .int .i64 0] 59)
theorem fx_below {w wr : World} {u : UD} {a : Option Addr} {cap : Nat} (h : Below (fxW w u a cap).heap.size (fxW w u a cap) wr) : Below w.heap.size w wr := below_call (below_alloc2 w _ _) h
theorem fx_u {w wr : World} {u : UD} {a : Option Addr} {cap : Nat} (h : Below (fxW w u a cap).heap.size (fxW w u a cap) wr) : Has wr w.heap.size #[.slice a u.n cap] := ((Has.new w _ _).alloc _).call h
theorem fx_row {w wr : World} {u : UD} {a : Option Addr} {cap : Nat} (h : Below (fxW w u a cap).heap.size (fxW w u a cap) wr) : wr.rowIs (w.heap.size + 1) 59 3 (fun _ => .int .i64 0) := by
  have h1 := World.rowIs_alloc (w.alloc (.cells #[.slice a u.n cap] 31)) #[.int .i64 0, .int .i64 0, .int .i64 0] 59 (fun _ => .int .i64 0) (fun i hi => by
    have : i = 0 ∨ i = 1 ∨ i = 2 := by simp at hi; omega
    rcases this with rfl | rfl | rfl <;> rfl)
  have h2 := h1.of_block (h.block _ h1.lt)
  simpa using h2
theorem fx_out {w wr : World} (h : Below w.heap.size w wr) (c f n : Value) : Below w.heap.size w (((wr.setCell ⟨w.heap.size + 1, 0, none⟩ c).setCell ⟨w.heap.size + 1, 1, none⟩ f).setCell ⟨w.heap.size + 1, 2, none⟩ n) :=
  frS (frS (frS h (Nat.le_add_right _ 1) _) (Nat.le_add_right _ 1) _) (Nat.le_add_right _ 1) _

def B13 (u : UD) (y : FT) : Prop := Bad1 u y ∨ Bad2 u y ∨ Bad3 u y
theorem tot_bd {u : UD} (hs : u.sm) : ∀ k, k ≤ u.n → tot u.fn k ≤ k * 1048576
  | 0, _ => Nat.zero_le _
  | k + 1, h => by
    have h1 := tot_bd hs k (by omega)
    have h2 := (hs.fn k (by omega)).nn
    unfold tot
    omega

end Go.Proofs.YtdialodjllpgaaaGreatDoor

/-! The specification's check of a unit: loops around a node. -/
namespace Go.Proofs.YtdialodjllpgaaaGreatDoor
open Go.RowKit
attribute [local go_sem] run_store_float
attribute [local go_sem ↓] Go.wp_at_zero Go.wp_at_succ

end Go.Proofs.YtdialodjllpgaaaGreatDoor

/-! Tables: impl's has, length, get. -/
namespace Go.Proofs.YtdialodjllpgaaaGreatDoor
open Go.RowKit
attribute [local go_sem] run_store_float
attribute [local go_sem ↓] Go.wp_at_zero Go.wp_at_succ

/-- block b holds an indexed table -/
structure XBox (w : World) (b : Nat) (a : Option Addr) (n cap B : Nat) (t : Int) (q : Nat → PD) : Prop where
  lt : b < w.heap.size
  c0 : w.cell? ⟨b, 0, none⟩ = some (.slice a n cap)
  c1 : w.cell? ⟨b, 1, none⟩ = some (.map (some B))
  c2 : w.cell? ⟨b, 2, none⟩ = some (.int .i64 t)
  tab : Tab w a n q
  map : MapIs w B (places q n)
theorem XBox.call {u w : World} {b : Nat} {a : Option Addr} {n cap B : Nat} {t : Int} {q : Nat → PD} (h : XBox u b a n cap B t q) (hb : Below u.heap.size u w) : XBox w b a n cap B t q :=
  ⟨Nat.lt_of_lt_of_le h.lt hb.size, (hb.cell (p := ⟨b, 0, none⟩) h.lt).trans h.c0, (hb.cell (p := ⟨b, 1, none⟩) h.lt).trans h.c1, (hb.cell (p := ⟨b, 2, none⟩) h.lt).trans h.c2, h.tab.below hb, h.map.below hb⟩
theorem XBox.alloc {w : World} {b : Nat} {a : Option Addr} {n cap B : Nat} {t : Int} {q : Nat → PD} (h : XBox w b a n cap B t q) (o : Obj) : XBox (w.alloc o) b a n cap B t q := h.call (below_alloc w o)

end Go.Proofs.YtdialodjllpgaaaGreatDoor
