import Derived.Test.YtjempigpjcnmhaaTabM
/-! Tables: impl's lookup. -/
namespace Go.Proofs.Ytjempigpjcnmhaa
open Go.RowKit
attribute [local go_sem] run_store_float
attribute [local go_sem ↓] Go.wp_at_zero Go.wp_at_succ

def pz : PD := ⟨vz, vz, 0⟩
/-- the pair of a key, or the zero pair -/
def gt (q : Nat → PD) (m : Mk) (n : Nat) : PD := match fnd q m n with
  | some i => q i
  | none => pz

theorem own_tab {w : World} {b n cap : Nat} {t : TypeId} {a : Option Addr} {q : Nat → PD} (h : w.ownsRow b t 11 (.slice a n cap) n (cellsOf q n)) : Tab w a n q := fun hn => by
  obtain ⟨_, h2⟩ := h
  rcases h2 with ⟨_, h0⟩ | ⟨g, cap', cur, e, _, hh, _, _, hs, ht⟩
  · omega
  · cases e
    refine ⟨g, 0, rfl, (Array.getElem?_eq_some_iff.1 hh).1, fun i hi j hj => ?_⟩
    have hlt : i * 11 + j < n * 11 := by omega
    have h1 : cur.toList[i * 11 + j]? = some (fl q (i * 11 + j)) := by
      have h3 : (cur.toList.take (n * 11))[i * 11 + j]? = cur.toList[i * 11 + j]? := by rw [List.getElem?_take, if_pos hlt]
      rw [← h3, ht]
      simp [cellsOf, hlt]
    rw [Nat.zero_add, fl_at q i j hj] at *
    have h4 : w.cell? ⟨g, i * 11 + j, none⟩ = cur[i * 11 + j]? := by simp [World.cell?, hh]
    rw [h4, pCells_at _ _ hj, ← h1]; simp

end Go.Proofs.Ytjempigpjcnmhaa
