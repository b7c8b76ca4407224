import Derived.Test.YtiidepafifodjabTabM
import Derived.Test.YtiidepafifodjabTabJ
import Derived.Test.YtiidepafifodjabSmall
/-! Tables: the specification's own search. -/
namespace Go.Proofs.Ytiidepafifodjab
open Go.RowKit
attribute [local go_sem] run_store_float
attribute [local go_sem ↓] Go.wp_at_zero Go.wp_at_succ

def atI (q : Nat → PD) (m : Mk) (n : Nat) : Int := match fnd q m n with
  | some i => (i : Int)
  | none => -1

abbrev lw (w : World) (a : Option Addr) (n cap : Nat) (t : Int) (y : VD) : World := (w.alloc (.cells #[.slice a n cap, .int .i64 t] 40)).alloc (.cells #[.int .i64 y.k, .int .i64 y.n, .float .f64 y.f, .string y.s, .int .i64 y.r] 26)

theorem lw_cells {w : World} {a : Option Addr} {n cap : Nat} {t : Int} {y : VD} {wr : World} (hB : Below (lw w a n cap t y).heap.size (lw w a n cap t y) wr) :
    wr.cell? ⟨w.heap.size, 0, none⟩ = some (.slice a n cap) ∧ wr.cell? ⟨w.heap.size + 1, 0, none⟩ = some (.int .i64 y.k) ∧ wr.cell? ⟨w.heap.size + 1, 1, none⟩ = some (.int .i64 y.n) ∧ wr.cell? ⟨w.heap.size + 1, 2, none⟩ = some (.float .f64 y.f) ∧ wr.cell? ⟨w.heap.size + 1, 3, none⟩ = some (.string y.s) ∧ wr.cell? ⟨w.heap.size + 1, 4, none⟩ = some (.int .i64 y.r) ∧
    w.heap.size < wr.heap.size ∧ w.heap.size + 1 < wr.heap.size := by
  have hs := hB.size
  simp at hs
  refine ⟨?_, ?_, ?_, ?_, ?_, ?_, by omega, by omega⟩
  · rw [hB.cell (by simp; omega)]; simp
  · rw [hB.cell (by simp)]; simp
  · rw [hB.cell (by simp)]; simp
  · rw [hB.cell (by simp)]; simp
  · rw [hB.cell (by simp)]; simp
  · rw [hB.cell (by simp)]; simp

theorem nm_step {q : Nat → PD} {m : Mk} {k : Nat} (h : ∀ j, j < k → mk (q j).key ≠ m) (hk : mk (q k).key ≠ m) : ∀ j, j < k + 1 → mk (q j).key ≠ m := fun j h' => by
  by_cases e : j = k
  · subst e; exact hk
  · exact h j (by omega)

set_option maxRecDepth 100000 in
set_option maxHeartbeats 8000000 in
theorem l2at_calls (a : Option Addr) (n cap : Nat) (t : Int) (q : Nat → PD) (y : VD) (w : World) (hn : n ≤ 1048576) (hq : ∀ i, i < n → (q i).wf) (hr : ∀ i, i < n → kOk (q i).key = true) (hy : kOk y = true) (yf : y.f < 2 ^ 64) (ys : y.s.size ≤ maxLen) (hT : Tab w a n q) :
    Calls Try.prog 77 #[tOf a n cap t, y.v] w fun e w' => e = .returned (.int .i64 (atI q (mk y) n)) ∧ Below w.heap.size w w' := by
  have HT : Hid (Tab (lw w a n cap t y) a n q) := (hT.alloc _).alloc _
  have hS : Hid (∀ i, i < n → ∀ w, Calls Try.prog 45 #[(q i).key.v, y.v] w fun e w' => e = .returned (.bool (decide (mk (q i).key = mk y))) ∧ Below w.heap.size w w') := fun i hi w => by
    rw [← same_mark (q i).key y (hq i hi).f1 yf (hr i hi) hy]
    exact specSame_calls _ _ _ _ _ _ _ _ _ _ (hq i hi).s1 ys (hq i hi).f1 yf w
  clear hq hr hy yf ys hT
  generalize hm : mk y = m at hS ⊢
  clear hm
  go_enter Try.func77, Try.ntmps77
  go_wp2_with fail
  go_loopw [9] (fun i wr => ∃ (k : Nat), k ≤ n ∧ i = .int .i64 k ∧ (∀ i, i < k → mk (q i).key ≠ m) ∧ Below (lw w a n cap t y).heap.size (lw w a n cap t y) wr) (fun i _ => n - (intOf i).toNat)
  case atStart => exact ⟨0, Nat.zero_le _, rfl, fun i hi => by omega, Below.refl _ _⟩
  case round =>
    obtain ⟨k, hk, rfl, hne, hB⟩ := hrel
    have hNe : Hid (∀ i, i < k → mk (q i).key ≠ m) := hne
    clear hne
    by_cases hkn : k < n
    · obtain ⟨b, off, rfl, hb, hc⟩ := HT.out (by omega)
      obtain ⟨x0, e0, e1, e2, e3, e4, z0, z1⟩ := lw_cells hB
      have hc' : ∀ j, j < 5 → wr.cell? ⟨b, off + k * 11 + j, none⟩ = (pCells (q k))[j]? := fun j hj => (hB.cell (p := ⟨b, off + k * 11 + j, none⟩) hb).trans (hc k hkn j (by omega))
      have d0 := hc' 0 (by omega)
      have d1 := hc' 1 (by omega)
      have d2 := hc' 2 (by omega)
      have d3 := hc' 3 (by omega)
      have d4 := hc' 4 (by omega)
      simp only [List.getElem?_toArray, List.getElem?_cons_zero, List.getElem?_cons_succ, Nat.add_zero] at d0 d1 d2 d3 d4
      clear hc hc'
      have k0 : (0 : Int) ≤ (k : Int) := by omega
      have k1 : (k : Int) < (n : Int) := by omega
      have hSk := hS.out k hkn
      by_cases hm : mk (q k).key = m
      · rw [decide_eq_true hm] at hSk
        have HSk : Hid _ := hSk
        have hat : Hid (atI q m n = (k : Int)) := by show atI q m n = _; unfold atI; rw [fnd_some hm hNe.out hkn]
        clear hSk hm
        go_wp2_with fail
        go_region_with (go_at_call 45; refine (HSk.out _).mono ?_; rintro e w4 ⟨rfl, hb4⟩; have HB4 : Hid (Below w.heap.size w w4) := (by first | exact below_call (below_call (below_alloc2 _ _ _) hB) hb4 | exact below_call (below_call (below_alloc2 _ _ _) hB).drew hb4); clear hb4)
        all_goals go_wp2_with fail
        all_goals go_ret
        all_goals exact ⟨ret_int hat.out.symm, HB4.out⟩
      · rw [decide_eq_false hm] at hSk
        have HSk : Hid _ := hSk
        have hM : Hid (mk (q k).key ≠ m) := hm
        clear hSk hm
        go_wp2_with fail
        go_region_with (go_at_call 45; refine (HSk.out _).mono ?_; rintro e w4 ⟨rfl, hb4⟩; have HB4 : Hid (Below (lw w (some ⟨b, off, none⟩) n cap t y).heap.size (lw w (some ⟨b, off, none⟩) n cap t y) w4) := (by first | exact below_ix hB hb4 | exact below_ix hB.drew hb4); clear hb4)
        all_goals go_wp2_with fail
        all_goals go_roundw
        all_goals first | exact ⟨k + 1, by omega, by go_num, nm_step hNe.out hM.out, HB4.out⟩ | (simp [intOf]; omega)
    · have : k = n := by omega
      subst this
      have hat : Hid (atI q m k = -1) := by show atI q m k = _; unfold atI; rw [fnd_none hNe.out]
      go_wp2_with fail
      go_ret
      exact ⟨ret_int hat.out.symm, below_call (below_alloc2 _ _ _) hB⟩
end Go.Proofs.Ytiidepafifodjab
