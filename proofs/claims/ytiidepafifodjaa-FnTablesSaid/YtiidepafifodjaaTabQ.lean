import Derived.Test.YtiidepafifodjaaTabM
import Derived.Test.YtiidepafifodjaaTabJ
import Derived.Test.YtiidepafifodjaaSmall
import Derived.Test.YtiidepafifodjaaTabO
/-! Tables: the specification's own search. -/
namespace Go.Proofs.Ytiidepafifodjaa
open Go.RowKit
attribute [local go_sem] run_store_float
attribute [local go_sem ↓] Go.wp_at_zero Go.wp_at_succ

def atI (q : Nat → PD) (m : Mk) (n : Nat) : Int := match fnd q m n with
  | some i => (i : Int)
  | none => -1

abbrev lw (w : World) (a : Option Addr) (n cap : Nat) (t : Int) (y : VD) : World := (w.alloc (.cells #[.slice a n cap, .int .i64 t] 59)).alloc (.cells #[.int .i64 y.k, .int .i64 y.n, .float .f64 y.f, .string y.s, .int .i64 y.r] 42)

theorem lw_cells {w : World} {a : Option Addr} {n cap : Nat} {t : Int} {y : VD} {wr : World} (hB : Below (lw w a n cap t y).heap.size (lw w a n cap t y) wr) :
    wr.cell? ⟨w.heap.size, 0, none⟩ = some (.slice a n cap) ∧ wr.cell? ⟨w.heap.size + 1, 0, none⟩ = some (.int .i64 y.k) ∧ wr.cell? ⟨w.heap.size + 1, 1, none⟩ = some (.int .i64 y.n) ∧ wr.cell? ⟨w.heap.size + 1, 2, none⟩ = some (.float .f64 y.f) ∧ wr.cell? ⟨w.heap.size + 1, 3, none⟩ = some (.string y.s) ∧ wr.cell? ⟨w.heap.size + 1, 4, none⟩ = some (.int .i64 y.r) ∧
    w.heap.size < wr.heap.size ∧ w.heap.size + 1 < wr.heap.size := by
  have hs := hB.size
  simp at hs
  refine ⟨?_, ?_, ?_, ?_, ?_, ?_, by omega, by omega⟩
  · rw [hB.cell (by simp; omega)]; simp
  · rw [hB.cell (by simp)]; simp
  · rw [hB.cell (by simp)]; simp
  · rw [hB.cell (by simp)]; simp
  · rw [hB.cell (by simp)]; simp
  · rw [hB.cell (by simp)]; simp

theorem nm_step {q : Nat → PD} {m : Mk} {k : Nat} (h : ∀ j, j < k → mk (q j).key ≠ m) (hk : mk (q k).key ≠ m) : ∀ j, j < k + 1 → mk (q j).key ≠ m := fun j h' => by
  by_cases e : j = k
  · subst e; exact hk
  · exact h j (by omega)

end Go.Proofs.Ytiidepafifodjaa

/-! Tables: the specification's length. -/
namespace Go.Proofs.Ytiidepafifodjaa
open Go.RowKit
attribute [local go_sem] run_store_float
attribute [local go_sem ↓] Go.wp_at_zero Go.wp_at_succ

theorem iv_ok (i : Int) : kOk (iv i) = true := by
  have o : okB 2 i 0 ⟨#[]⟩ 0 = true := by simp [okB, ueB, usB, se, fz, order00]
  simp [kOk, kc, kv, iv, o]
theorem at_pos {q : Nat → PD} {n i : Nat} (h : 0 ≤ atI q (mk (iv (i : Int))) n) : pres q n i := by
  unfold atI at h
  cases hf : fnd q (mk (iv (i : Int))) n with
  | none => rw [hf] at h; simp at h
  | some j => obtain ⟨h1, h2⟩ := fnd_at hf; exact ⟨j, h1, h2⟩
theorem at_neg {q : Nat → PD} {n i : Nat} (h : ¬ 0 ≤ atI q (mk (iv (i : Int))) n) : ¬ pres q n i := by
  rintro ⟨j, h1, h2⟩
  unfold atI at h
  cases hf : fnd q (mk (iv (i : Int))) n with
  | none => exact fnd_no hf j h1 h2
  | some j => rw [hf] at h; simp at h
theorem pres_more {q : Nat → PD} {n k : Nat} (h : ∀ i, i < k → pres q n (i + 1)) (hk : pres q n (k + 1)) : ∀ i, i < k + 1 → pres q n (i + 1) := fun i hi => by
  by_cases e : i = k
  · subst e; exact hk
  · exact h i (by omega)

end Go.Proofs.Ytiidepafifodjaa

/-! Tables: Length, both. -/
namespace Go.Proofs.Ytiidepafifodjaa
open Go.RowKit
attribute [local go_sem] run_store_float
attribute [local go_sem ↓] Go.wp_at_zero Go.wp_at_succ

theorem XBox.new {w : World} {b : Nat} {a : Option Addr} {n cap B : Nat} {t : Int} {q : Nat → PD} {T : TypeId} (ho : w.ownsRow b T 11 (.slice a n cap) n (cellsOf q n)) (hM : MapIs w B (places q n)) (K : TypeId) :
    XBox (w.alloc (.cells #[.slice a n cap, .map (some B), .int .i64 t] K)) w.heap.size a n cap B t q :=
  ⟨by simp, by simp, by simp, by simp, (own_tab ho).alloc _, hM.alloc _⟩

def LenSays (n : Nat) (t : Int) (q : Nat → PD) (e : Ending) : Prop := ∃ r : Nat, e = .returned (.int .i64 (r : Int)) ∧ ((TabOk n t q ∧ LenIs q n r) ∨ (¬ TabOk n t q ∧ r = 0))

set_option maxRecDepth 100000 in
set_option maxHeartbeats 2000000 in
theorem implLength_calls (a : Option Addr) (n cap : Nat) (t : Int) (q : Nat → PD) (w : World) (hn : n ≤ 1048576) (hq : ∀ i, i < n → (q i).wf) (hT : Tab w a n q) :
    Calls Try.prog 83 #[tOf a n cap t] w fun e w' => LenSays n t q e ∧ Below w.heap.size w w' := by
  have hQ : Hid (∀ i, i < n → (q i).wf) := hq
  have HT : Hid (Tab w a n q) := hT
  clear hq hT
  go_enter Try.func83, Try.ntmps83
  go_wp2_with fail
  refine (index_calls a n cap t q _ hn hQ.out (HT.out.alloc _)).mono ?_
  rintro e w2 ⟨⟨hok, a', cap', B, rfl, _, ho, hM⟩ | ⟨hok, rfl⟩, hb2⟩
  · have HX : Hid (XBox (w2.alloc (.cells #[.slice a' n cap', .map (some B), .int .i64 t] 115)) w2.heap.size a' n cap' B t q) := XBox.new ho hM _
    have HB : Hid (Below w.heap.size w (w2.alloc (.cells #[.slice a' n cap', .map (some B), .int .i64 t] 115))) := below_a (below_call (below_alloc _ _) hb2) _
    have HO : Hid (TabOk n t q) := hok
    clear hb2 ho hM hok
    go_wp2_with fail
    refine (length_calls _ a' n cap' B t q _ HO.out HX.out).mono ?_
    rintro e w3 ⟨⟨r, rfl, hr⟩, hb3⟩
    have HR : Hid (LenIs q n r) := hr
    replace HB : Hid (Below w.heap.size w w3) := below_call HB.out hb3
    clear hr hb3
    go_wp2_with fail
    go_ret
    exact ⟨⟨r, rfl, .inl ⟨HO.out, HR.out⟩⟩, HB.out⟩
  · have HB : Hid (Below w.heap.size w w2) := below_call (below_alloc _ _) hb2
    clear hb2
    go_wp2_with fail
    go_ret
    exact ⟨⟨0, rfl, .inr ⟨hok, rfl⟩⟩, below_a HB.out _⟩

theorem LenSays.one {n : Nat} {t : Int} {q : Nat → PD} {r s : Nat} (h : (TabOk n t q ∧ LenIs q n r) ∨ (¬ TabOk n t q ∧ r = 0)) (k : (TabOk n t q ∧ LenIs q n s) ∨ (¬ TabOk n t q ∧ s = 0)) : r = s := by
  rcases h with ⟨h1, h2⟩ | ⟨h1, h2⟩ <;> rcases k with ⟨k1, k2⟩ | ⟨k1, k2⟩
  · exact h2.one k2
  · exact absurd h1 k1
  · exact absurd k1 h1
  · omega
end Go.Proofs.Ytiidepafifodjaa
