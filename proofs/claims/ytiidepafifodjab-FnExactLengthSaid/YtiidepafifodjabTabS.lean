import Derived.Test.YtiidepafifodjabTabR
import Derived.Test.YtiidepafifodjabTabO
/-! Tables: Length, both. -/
namespace Go.Proofs.Ytiidepafifodjab
open Go.RowKit
attribute [local go_sem] run_store_float
attribute [local go_sem ↓] Go.wp_at_zero Go.wp_at_succ

theorem XBox.new {w : World} {b : Nat} {a : Option Addr} {n cap B : Nat} {t : Int} {q : Nat → PD} {T : TypeId} (ho : w.ownsRow b T 11 (.slice a n cap) n (cellsOf q n)) (hM : MapIs w B (places q n)) (K : TypeId) :
    XBox (w.alloc (.cells #[.slice a n cap, .map (some B), .int .i64 t] K)) w.heap.size a n cap B t q :=
  ⟨by simp, by simp, by simp, by simp, (own_tab ho).alloc _, hM.alloc _⟩

def LenSays (n : Nat) (t : Int) (q : Nat → PD) (e : Ending) : Prop := ∃ r : Nat, e = .returned (.int .i64 (r : Int)) ∧ ((TabOk n t q ∧ LenIs q n r) ∨ (¬ TabOk n t q ∧ r = 0))

set_option maxRecDepth 100000 in
set_option maxHeartbeats 2000000 in
theorem implLength_calls (a : Option Addr) (n cap : Nat) (t : Int) (q : Nat → PD) (w : World) (hn : n ≤ 1048576) (hq : ∀ i, i < n → (q i).wf) (hT : Tab w a n q) :
    Calls Try.prog 27 #[tOf a n cap t] w fun e w' => LenSays n t q e ∧ Below w.heap.size w w' := by
  have hQ : Hid (∀ i, i < n → (q i).wf) := hq
  have HT : Hid (Tab w a n q) := hT
  clear hq hT
  go_enter Try.func27, Try.ntmps27
  go_wp2_with fail
  refine (index_calls a n cap t q _ hn hQ.out (HT.out.alloc _)).mono ?_
  rintro e w2 ⟨⟨hok, a', cap', B, rfl, _, ho, hM⟩ | ⟨hok, rfl⟩, hb2⟩
  · have HX : Hid (XBox (w2.alloc (.cells #[.slice a' n cap', .map (some B), .int .i64 t] 78)) w2.heap.size a' n cap' B t q) := XBox.new ho hM _
    have HB : Hid (Below w.heap.size w (w2.alloc (.cells #[.slice a' n cap', .map (some B), .int .i64 t] 78))) := below_a (below_call (below_alloc _ _) hb2) _
    have HO : Hid (TabOk n t q) := hok
    clear hb2 ho hM hok
    go_wp2_with fail
    refine (length_calls _ a' n cap' B t q _ HO.out HX.out).mono ?_
    rintro e w3 ⟨⟨r, rfl, hr⟩, hb3⟩
    have HR : Hid (LenIs q n r) := hr
    replace HB : Hid (Below w.heap.size w w3) := below_call HB.out hb3
    clear hr hb3
    go_wp2_with fail
    go_ret
    exact ⟨⟨r, rfl, .inl ⟨HO.out, HR.out⟩⟩, HB.out⟩
  · have HB : Hid (Below w.heap.size w w2) := below_call (below_alloc _ _) hb2
    clear hb2
    go_wp2_with fail
    go_ret
    exact ⟨⟨0, rfl, .inr ⟨hok, rfl⟩⟩, below_a HB.out _⟩

set_option maxRecDepth 100000 in
set_option maxHeartbeats 2000000 in
theorem specLength_calls (a : Option Addr) (n cap : Nat) (t : Int) (q : Nat → PD) (w : World) (hn : n ≤ 1048576) (hq : ∀ i, i < n → (q i).wf) (hT : Tab w a n q) :
    Calls Try.prog 26 #[tOf a n cap t] w fun e w' => LenSays n t q e ∧ Below w.heap.size w w' := by
  have hQ : Hid (∀ i, i < n → (q i).wf) := hq
  have HT : Hid (Tab (tbW w a n cap t) a n q) := hT.alloc _
  clear hq hT
  go_enter Try.func26, Try.ntmps26
  go_wp2_with fail
  refine (specTableOk_calls a n cap t q _ hn hQ.out HT.out).mono ?_
  rintro e w2 ⟨⟨b, rfl, hb⟩, hb2⟩
  have hB : Below (tbW w a n cap t).heap.size (tbW w a n cap t) w2 := hb2
  obtain ⟨x0, x1, z0⟩ := tb_cells hB
  have HT2 : Hid (Tab w2 a n q) := HT.out.below hb2
  have HB : Hid (Below w.heap.size w w2) := below_call (below_alloc _ _) hb2
  clear hb2 hB
  cases b
  · have hno : Hid (¬ TabOk n t q) := fun h => by have := hb.2 h; cases this
    go_wp2_with fail
    go_ret
    exact ⟨⟨0, rfl, .inr ⟨hno.out, rfl⟩⟩, HB.out⟩
  · have HO : Hid (TabOk n t q) := hb.1 rfl
    clear hb
    go_wp2_with fail
    refine (l2length_calls a n cap t q _ hQ.out HO.out HT2.out).mono ?_
    rintro e w3 ⟨⟨r, rfl, hr⟩, hb3⟩
    have HR : Hid (LenIs q n r) := hr
    replace HB : Hid (Below w.heap.size w w3) := below_call HB.out hb3
    clear hr hb3
    go_wp2_with fail
    go_ret
    exact ⟨⟨r, rfl, .inl ⟨HO.out, HR.out⟩⟩, HB.out⟩

theorem LenSays.one {n : Nat} {t : Int} {q : Nat → PD} {r s : Nat} (h : (TabOk n t q ∧ LenIs q n r) ∨ (¬ TabOk n t q ∧ r = 0)) (k : (TabOk n t q ∧ LenIs q n s) ∨ (¬ TabOk n t q ∧ s = 0)) : r = s := by
  rcases h with ⟨h1, h2⟩ | ⟨h1, h2⟩ <;> rcases k with ⟨k1, k2⟩ | ⟨k1, k2⟩
  · exact h2.one k2
  · exact absurd h1 k1
  · exact absurd k1 h1
  · omega
end Go.Proofs.Ytiidepafifodjab
