import Derived.Test.YtiidepafifodjaaTabM
import Derived.Test.YtiidepafifodjaaTabJ
import Derived.Test.YtiidepafifodjaaSmall
/-! Tables: the specification's own search. -/
namespace Go.Proofs.Ytiidepafifodjaa
open Go.RowKit
attribute [local go_sem] run_store_float
attribute [local go_sem ↓] Go.wp_at_zero Go.wp_at_succ

def atI (q : Nat → PD) (m : Mk) (n : Nat) : Int := match fnd q m n with
  | some i => (i : Int)
  | none => -1

abbrev lw (w : World) (a : Option Addr) (n cap : Nat) (t : Int) (y : VD) : World := (w.alloc (.cells #[.slice a n cap, .int .i64 t] 59)).alloc (.cells #[.int .i64 y.k, .int .i64 y.n, .float .f64 y.f, .string y.s, .int .i64 y.r] 42)

theorem lw_cells {w : World} {a : Option Addr} {n cap : Nat} {t : Int} {y : VD} {wr : World} (hB : Below (lw w a n cap t y).heap.size (lw w a n cap t y) wr) :
    wr.cell? ⟨w.heap.size, 0, none⟩ = some (.slice a n cap) ∧ wr.cell? ⟨w.heap.size + 1, 0, none⟩ = some (.int .i64 y.k) ∧ wr.cell? ⟨w.heap.size + 1, 1, none⟩ = some (.int .i64 y.n) ∧ wr.cell? ⟨w.heap.size + 1, 2, none⟩ = some (.float .f64 y.f) ∧ wr.cell? ⟨w.heap.size + 1, 3, none⟩ = some (.string y.s) ∧ wr.cell? ⟨w.heap.size + 1, 4, none⟩ = some (.int .i64 y.r) ∧
    w.heap.size < wr.heap.size ∧ w.heap.size + 1 < wr.heap.size := by
  have hs := hB.size
  simp at hs
  refine ⟨?_, ?_, ?_, ?_, ?_, ?_, by omega, by omega⟩
  · rw [hB.cell (by simp; omega)]; simp
  · rw [hB.cell (by simp)]; simp
  · rw [hB.cell (by simp)]; simp
  · rw [hB.cell (by simp)]; simp
  · rw [hB.cell (by simp)]; simp
  · rw [hB.cell (by simp)]; simp

theorem nm_step {q : Nat → PD} {m : Mk} {k : Nat} (h : ∀ j, j < k → mk (q j).key ≠ m) (hk : mk (q k).key ≠ m) : ∀ j, j < k + 1 → mk (q j).key ≠ m := fun j h' => by
  by_cases e : j = k
  · subst e; exact hk
  · exact h j (by omega)

end Go.Proofs.Ytiidepafifodjaa
