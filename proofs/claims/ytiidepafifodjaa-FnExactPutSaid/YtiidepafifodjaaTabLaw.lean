import Derived.Test.YtiidepafifodjaaTabJ
/-! FnExactTableOk: the walk. -/
namespace Go.Proofs.Ytiidepafifodjaa
open Go.RowKit
attribute [local go_sem] run_store_float
attribute [local go_sem ↓] Go.wp_at_zero Go.wp_at_succ

/-- a local that holds a table -/
structure TBox (w : World) (b : Nat) (a : Option Addr) (n cap : Nat) (t : Int) : Prop where
  lt : b < w.heap.size
  c0 : w.cell? ⟨b, 0, none⟩ = some (.slice a n cap)
  c1 : w.cell? ⟨b, 1, none⟩ = some (.int .i64 t)
theorem TBox.new (w : World) (a : Option Addr) (n cap : Nat) (t : Int) (T : TypeId) : TBox (w.alloc (.cells #[.slice a n cap, .int .i64 t] T)) w.heap.size a n cap t := ⟨by simp, by simp, by simp⟩
theorem TBox.call {u w : World} {b : Nat} {a : Option Addr} {n cap : Nat} {t : Int} (h : TBox u b a n cap t) (hb : Below u.heap.size u w) : TBox w b a n cap t :=
  ⟨Nat.lt_of_lt_of_le h.lt hb.size, (hb.cell (p := ⟨b, 0, none⟩) h.lt).trans h.c0, (hb.cell (p := ⟨b, 1, none⟩) h.lt).trans h.c1⟩
theorem TBox.drew {w : World} {b : Nat} {a : Option Addr} {n cap : Nat} {t : Int} (h : TBox w b a n cap t) : TBox w.drew b a n cap t := ⟨h.lt, h.c0, h.c1⟩
theorem TBox.alloc {w : World} {b : Nat} {a : Option Addr} {n cap : Nat} {t : Int} (h : TBox w b a n cap t) (o : Obj) : TBox (w.alloc o) b a n cap t := h.call (below_alloc w o)

end Go.Proofs.Ytiidepafifodjaa
