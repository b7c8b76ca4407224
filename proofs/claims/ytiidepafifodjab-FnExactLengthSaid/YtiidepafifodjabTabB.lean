import Derived.Test.YtiidepafifodjabTabA
import Derived.Deep.OwnRows
/-! Tables: a slice of pairs copied. -/
namespace Go.Proofs.Ytiidepafifodjab
open Go.RowKit
attribute [local go_sem] run_store_float

/-- the cells of a row of pairs -/
def fl (q : Nat → PD) (m : Nat) : Value := ((pCells (q (m / 11)))[m % 11]?).getD undef

theorem fl_at (q : Nat → PD) (k j : Nat) (hj : j < 11) : fl q (k * 11 + j) = ((pCells (q k))[j]?).getD undef := by
  unfold fl
  rw [show (k * 11 + j) / 11 = k by omega, show (k * 11 + j) % 11 = j by omega]
theorem pCells_at (p : PD) (j : Nat) (hj : j < 11) : (pCells p)[j]? = some (((pCells p)[j]?).getD undef) := by
  have : j < (pCells p).size := hj
  rw [Array.getElem?_eq_getElem this]; rfl

theorem row_tab {w : World} {B : Nat} {t : TypeId} {n : Nat} {q : Nat → PD} (h : w.rowIs B t (n * 11) (fl q)) : Tab w (some ⟨B, 0, none⟩) n q := fun _ =>
  ⟨B, 0, rfl, h.lt, fun i hi j hj => by
    rw [Nat.zero_add, h.cell (by omega), fl_at q i j hj]; exact (pCells_at _ _ hj).symm⟩

theorem row11 {w : World} {B : Nat} {t : TypeId} {N : Nat} {f : Nat → Value} (h : w.rowIs B t N f) (k : Nat) (q : Nat → PD) (hf : ∀ m, m < k * 11 → f m = fl q m) :
    ∃ f', (((((((((((w.setCell ⟨B, k * 11, none⟩ (.int .i64 (q k).key.k)).setCell ⟨B, k * 11 + 1, none⟩ (.int .i64 (q k).key.n)).setCell ⟨B, k * 11 + 2, none⟩ (.float .f64 (q k).key.f)).setCell ⟨B, k * 11 + 3, none⟩ (.string (q k).key.s)).setCell ⟨B, k * 11 + 4, none⟩ (.int .i64 (q k).key.r)).setCell ⟨B, k * 11 + 5, none⟩ (.int .i64 (q k).val.k)).setCell ⟨B, k * 11 + 6, none⟩ (.int .i64 (q k).val.n)).setCell ⟨B, k * 11 + 7, none⟩ (.float .f64 (q k).val.f)).setCell ⟨B, k * 11 + 8, none⟩ (.string (q k).val.s)).setCell ⟨B, k * 11 + 9, none⟩ (.int .i64 (q k).val.r)).setCell ⟨B, k * 11 + 10, none⟩ (.int .i64 (q k).turn)).rowIs B t N f' ∧ ∀ m, m < (k + 1) * 11 → f' m = fl q m := by
  refine ⟨_, ((((((((((h.set _ _).set _ _).set _ _).set _ _).set _ _).set _ _).set _ _).set _ _).set _ _).set _ _).set _ _, fun m hm => ?_⟩
  by_cases c : m < k * 11
  · rw [← hf m c]
    (repeat rw [if_neg (by omega)])
  · obtain ⟨j, rfl⟩ : ∃ j, m = k * 11 + j := ⟨m - k * 11, by omega⟩
    have hj : j < 11 := by omega
    rw [fl_at q k j hj]
    rcases (show j = 0 ∨ j = 1 ∨ j = 2 ∨ j = 3 ∨ j = 4 ∨ j = 5 ∨ j = 6 ∨ j = 7 ∨ j = 8 ∨ j = 9 ∨ j = 10 by omega) with rfl | rfl | rfl | rfl | rfl | rfl | rfl | rfl | rfl | rfl | rfl <;> simp

theorem infoPair : (Try.prog.info? 48).map (fun i => (i.zero, i.size, i.bytes)) = some (some (.agg #[.int .i64 0, .int .i64 0, .float .f64 0, .string ⟨#[]⟩, .int .i64 0, .int .i64 0, .int .i64 0, .float .f64 0, .string ⟨#[]⟩, .int .i64 0, .int .i64 0]), 11, 104) := by kernel_rfl

theorem make_pairs (n : Nat) (hn : n ≤ 1048576) (w : World) : ∃ c : Array Value, c.size = n * 11 ∧ (Instr.makeSlice 38 (.int .i64 (n : Int)) (.int .i64 (n : Int))).run Try.prog w = .ok (.slice (some ⟨w.heap.size, 0, none⟩) n n) (w.alloc (.cells c 48)) := by
  obtain ⟨i, hi, hzz⟩ := Option.map_eq_some_iff.1 infoPair
  simp only [Prod.mk.injEq] at hzz
  obtain ⟨hz, hs, hb⟩ := hzz
  have hr := run_make (P := Try.prog) (w := w) 38 48 i _ Try.underlying38 hi hz .i64 .i64 n n (by omega) (Int.le_refl _) (by rw [hb]; omega) (by omega)
  simp only [Int.toNat_natCast, hs] at hr
  exact ⟨_, size_madeCells _ _, hr⟩

theorem rowOf (w : World) (c : Array Value) (t : TypeId) : (w.alloc (.cells c t)).rowIs w.heap.size t c.size (fun i => (c[i]?).getD undef) :=
  World.rowIs_alloc w c t _ fun i hi => by rw [Array.getElem?_eq_getElem hi]; rfl

set_option maxRecDepth 100000 in
set_option maxHeartbeats 4000000 in
theorem toPairS_calls (a : Option Addr) (n cap : Nat) (q : Nat → PD) (w : World) (hn : n ≤ 1048576) (hT : Tab w a n q) :
    Calls Try.prog 46 #[.slice a n cap] w fun e w' => (∃ B, e = .returned (.slice (some ⟨B, 0, none⟩) n n) ∧ w.heap.size ≤ B ∧ w'.rowIs B 48 (n * 11) (fl q)) ∧ Below w.heap.size w w' := by
  have HT : Hid (Tab w a n q) := hT
  clear hT
  obtain ⟨c, hcs, hmk⟩ := make_pairs n hn w
  have hR0 := rowOf w c 48
  rw [hcs] at hR0
  have hB0 := below_alloc w (.cells c 48)
  go_enter Try.func46, Try.ntmps46
  go_wp2_with fail
  clear hmk
  go_loopw [4] (fun i wr => ∃ (k : Nat) (f : Nat → Value), k ≤ n ∧ i = .int .i64 k ∧ wr.rowIs w.heap.size 48 (n * 11) f ∧ (∀ m, m < k * 11 → f m = fl q m) ∧ Below w.heap.size w wr) (fun i _ => n - (intOf i).toNat)
  case atStart => exact ⟨0, _, Nat.zero_le _, rfl, hR0, fun m hm => by omega, hB0⟩
  case round =>
    clear hR0 hB0 hcs
    obtain ⟨k, f, hk, rfl, hR, hf, hB⟩ := hrel
    by_cases hkn : k < n
    · obtain ⟨b, off, rfl, hb, hc⟩ := HT.out (by omega)
      have hc' : ∀ j, j < 11 → wr.cell? ⟨b, off + k * 11 + j, none⟩ = (pCells (q k))[j]? := fun j hj => (hB.cell (p := ⟨b, off + k * 11 + j, none⟩) hb).trans (hc k hkn j hj)
      have d0 := hc' 0 (by omega)
      have d1 := hc' 1 (by omega)
      have d2 := hc' 2 (by omega)
      have d3 := hc' 3 (by omega)
      have d4 := hc' 4 (by omega)
      have d5 := hc' 5 (by omega)
      have d6 := hc' 6 (by omega)
      have d7 := hc' 7 (by omega)
      have d8 := hc' 8 (by omega)
      have d9 := hc' 9 (by omega)
      have d10 := hc' 10 (by omega)
      simp only [List.getElem?_toArray, List.getElem?_cons_zero, List.getElem?_cons_succ, Nat.add_zero] at d0 d1 d2 d3 d4 d5 d6 d7 d8 d9 d10
      clear hc'
      clear hc
      go_wp2_with fail
      refine (toPair_calls (q k) wr).mono ?_
      rintro e w2 ⟨rfl, hb2⟩
      have hR2 := hR.of_block (hb2.block _ hR.lt)
      replace hB := below_call hB hb2
      clear d0 d1 d2 d3 d4 d5 d6 d7 d8 d9 d10 hb2 hR
      have g0 := hR2.cell (i := k * 11) (by omega)
      have g1 := hR2.cell (i := k * 11 + 1) (by omega)
      have g2 := hR2.cell (i := k * 11 + 2) (by omega)
      have g3 := hR2.cell (i := k * 11 + 3) (by omega)
      have g4 := hR2.cell (i := k * 11 + 4) (by omega)
      have g5 := hR2.cell (i := k * 11 + 5) (by omega)
      have g6 := hR2.cell (i := k * 11 + 6) (by omega)
      have g7 := hR2.cell (i := k * 11 + 7) (by omega)
      have g8 := hR2.cell (i := k * 11 + 8) (by omega)
      have g9 := hR2.cell (i := k * 11 + 9) (by omega)
      have g10 := hR2.cell (i := k * 11 + 10) (by omega)
      have z := hR2.frozen
      obtain ⟨f', hR3, hf'⟩ := row11 hR2 k q hf
      have HR : Hid _ := hR3
      have HF : Hid _ := hf'
      clear hR2 hR3 hf hf'
      go_wp2_with fail
      go_roundw
      case rel => exact ⟨k + 1, f', by omega, by go_num, HR.out, HF.out, st1 (st1 (st1 (st1 (st1 (st1 (st1 (st1 (st1 (st1 (st1 hB (Nat.le_refl _) _) (Nat.le_refl _) _) (Nat.le_refl _) _) (Nat.le_refl _) _) (Nat.le_refl _) _) (Nat.le_refl _) _) (Nat.le_refl _) _) (Nat.le_refl _) _) (Nat.le_refl _) _) (Nat.le_refl _) _) (Nat.le_refl _) _⟩
      case measure => simp [intOf]; omega
    · go_wp2_with fail
      have : k = n := by omega
      subst this
      go_ret
      exact ⟨⟨_, rfl, Nat.le_refl _, hR.congr hf⟩, hB⟩
end Go.Proofs.Ytiidepafifodjab
