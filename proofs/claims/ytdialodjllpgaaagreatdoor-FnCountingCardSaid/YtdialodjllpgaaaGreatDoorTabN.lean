import Derived.Test.YtdialodjllpgaaaGreatDoorInA
/-! Tables: impl's lookup. -/
namespace Go.Proofs.YtdialodjllpgaaaGreatDoor
open Go.RowKit
attribute [local go_sem] run_store_float
attribute [local go_sem ↓] Go.wp_at_zero Go.wp_at_succ

def pz : PD := ⟨vz, vz, 0⟩
/-- the pair of a key, or the zero pair -/
def gt (q : Nat → PD) (m : Mk) (n : Nat) : PD := match fnd q m n with
  | some i => q i
  | none => pz

theorem own_tab {w : World} {b n cap : Nat} {t : TypeId} {a : Option Addr} {q : Nat → PD} (h : w.ownsRow b t 11 (.slice a n cap) n (cellsOf q n)) : Tab w a n q := fun hn => by
  obtain ⟨_, h2⟩ := h
  rcases h2 with ⟨_, h0⟩ | ⟨g, cap', cur, e, _, hh, _, _, hs, ht⟩
  · omega
  · cases e
    refine ⟨g, 0, rfl, (Array.getElem?_eq_some_iff.1 hh).1, fun i hi j hj => ?_⟩
    have hlt : i * 11 + j < n * 11 := by omega
    have h1 : cur.toList[i * 11 + j]? = some (fl q (i * 11 + j)) := by
      have h3 : (cur.toList.take (n * 11))[i * 11 + j]? = cur.toList[i * 11 + j]? := by rw [List.getElem?_take, if_pos hlt]
      rw [← h3, ht]
      simp [cellsOf, hlt]
    rw [Nat.zero_add, fl_at q i j hj] at *
    have h4 : w.cell? ⟨g, i * 11 + j, none⟩ = cur[i * 11 + j]? := by simp [World.cell?, hh]
    rw [h4, pCells_at _ _ hj, ← h1]; simp

set_option maxRecDepth 100000 in
set_option maxHeartbeats 4000000 in
theorem lookup_calls (a : Option Addr) (n cap B : Nat) (t : Int) (q : Nat → PD) (m : Mk) (w : World) (hok : TabOk n t q) (hT : Tab w a n q) (hM : MapIs w B (places q n)) :
    Calls Tryz.prog 183 #[.slice a n cap, .map (some B), mkV m] w fun e w' => e = .returned (.tuple #[pOf (gt q m n), .bool (fnd q m n).isSome]) ∧ Below w.heap.size w w' := by
  have HT : Hid (Tab w a n q) := hT
  have hn := hok.nn
  obtain ⟨m1, m2, m3, m4, m5⟩ := m
  have hlk := fun o1 o2 => lookup_run Tryz.underlying241 markT ((hM.alloc o1).alloc o2) (m1, m2, m3, m4, m5) (Tryz.zeroValue3 _)
  rw [idx_ok hok] at hlk
  clear hT hM hok
  have p1 : w.heap.size ≤ w.heap.size + 1 := Nat.le_add_right _ _
  unfold gt
  cases hf : fnd q (m1, m2, m3, m4, m5) n with
  | none =>
    rw [hf] at hlk
    simp only [Option.map_none, Option.getD_none, Option.isSome_none] at hlk
    go_enter Tryz.func183, Tryz.ntmps183
    go_wp2_with fail
    exact bodyPost_ret (v := .tuple #[pOf pz, .bool false]) (by simp [results, Tryz.results183, go_sem, pz, vz]) rfl ⟨rfl, below_alloc2 _ _ _⟩
  | some i =>
    rw [hf] at hlk
    simp only [Option.map_some, Option.getD_some, Option.isSome_some] at hlk
    have hi := (fnd_at hf).1
    obtain ⟨b, off, rfl, hb, hc⟩ := HT.out (by omega)
    have hc' : ∀ o1 o2 : Obj, ∀ j, j < 11 → ((w.alloc o1).alloc o2).cell? ⟨b, off + i * 11 + j, none⟩ = (pCells (q i))[j]? := fun o1 o2 j hj => by
      rw [World.cell?_alloc_lt _ _ _ (by simp; omega), World.cell?_alloc_lt _ _ _ hb]; exact hc i hi j hj
    have d0 := fun o1 o2 => hc' o1 o2 0 (by omega)
    have d1 := fun o1 o2 => hc' o1 o2 1 (by omega)
    have d2 := fun o1 o2 => hc' o1 o2 2 (by omega)
    have d3 := fun o1 o2 => hc' o1 o2 3 (by omega)
    have d4 := fun o1 o2 => hc' o1 o2 4 (by omega)
    have d5 := fun o1 o2 => hc' o1 o2 5 (by omega)
    have d6 := fun o1 o2 => hc' o1 o2 6 (by omega)
    have d7 := fun o1 o2 => hc' o1 o2 7 (by omega)
    have d8 := fun o1 o2 => hc' o1 o2 8 (by omega)
    have d9 := fun o1 o2 => hc' o1 o2 9 (by omega)
    have d10 := fun o1 o2 => hc' o1 o2 10 (by omega)
    simp only [List.getElem?_toArray, List.getElem?_cons_zero, List.getElem?_cons_succ, Nat.add_zero] at d0 d1 d2 d3 d4 d5 d6 d7 d8 d9 d10
    clear hc hc'
    go_enter Tryz.func183, Tryz.ntmps183
    go_wp2_with fail
    exact bodyPost_ret (v := .tuple #[pOf (q i), .bool true]) (by simp [results, Tryz.results183, go_sem]) rfl ⟨rfl, below_alloc2 _ _ _⟩
end Go.Proofs.YtdialodjllpgaaaGreatDoor
