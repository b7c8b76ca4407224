import Derived.Test.YtiidepafifodjabTabC
/-! Tables: the laws' size, copy and comparison of a whole table. -/
namespace Go.Proofs.Ytiidepafifodjab
open Go.RowKit
attribute [local go_sem] run_store_float

abbrev tOf (a : Option Addr) (n cap : Nat) (t : Int) : Value := .agg #[.slice a n cap, .int .i64 t]

theorem Tab.alloc {w : World} {a : Option Addr} {n : Nat} {q : Nat → PD} (h : Tab w a n q) (o : Obj) : Tab (w.alloc o) a n q := h.below (below_alloc w o)

set_option maxRecDepth 100000 in
set_option maxHeartbeats 2000000 in
theorem szTable_calls (a : Option Addr) (n cap : Nat) (t : Int) (q : Nat → PD) (left : Int) (w : World) (h0 : 0 ≤ left) (h1 : left ≤ 1048576) (hn : n ≤ maxLen) (hq : ∀ i, i < n → (q i).wf) (hT : Tab w a n q) :
    Calls Try.prog 15 #[tOf a n cap t, .int .i64 left] w fun e w' => (∃ v : Int, e = .returned (.int .i64 v) ∧ (v = -1 ∨ (0 ≤ v ∧ v ≤ left ∧ n ≤ left))) ∧ Below w.heap.size w w' := by
  have HT : Hid (Tab w a n q) := hT
  have hQ : Hid (∀ i, i < n → (q i).wf) := hq
  have hN : Hid (n ≤ maxLen) := hn
  clear hT hq hn
  go_enter Try.func15, Try.ntmps15
  go_wp2_with fail
  refine (szPairS_calls a n cap q left _ h0 h1 hN.out hQ.out (HT.out.alloc _)).mono ?_
  rintro e w2 ⟨⟨v, rfl, hv⟩, hb2⟩
  have hB := below_call (below_alloc _ _) hb2
  clear hb2
  rcases hv with rfl | ⟨v0, v1, v2⟩
  · go_wp2_with fail
    go_ret
    exact ⟨⟨_, rfl, .inl rfl⟩, hB⟩
  · go_wp2_with fail
    go_ret
    exact ⟨⟨_, rfl, .inr ⟨v0, v1, v2⟩⟩, hB⟩

set_option maxRecDepth 100000 in
set_option maxHeartbeats 2000000 in
theorem toTable_calls (a : Option Addr) (n cap : Nat) (t : Int) (q : Nat → PD) (w : World) (hn : n ≤ 1048576) (hT : Tab w a n q) :
    Calls Try.prog 17 #[tOf a n cap t] w fun e w' => (∃ B, e = .returned (tOf (some ⟨B, 0, none⟩) n n t) ∧ w.heap.size ≤ B ∧ w'.rowIs B 48 (n * 11) (fl q)) ∧ Below w.heap.size w w' := by
  have HT : Hid (Tab w a n q) := hT
  clear hT
  go_enter Try.func17, Try.ntmps17
  go_wp2_with fail
  refine (toPairS_calls a n cap q _ hn (((HT.out.alloc _).alloc _).alloc _)).mono ?_
  rintro e w2 ⟨⟨B, rfl, hBl, hR⟩, hb2⟩
  have hB := below_call (below_alloc3 _ _ _ _) hb2
  obtain ⟨hc2, hf2⟩ := bcell hb2
  have hz2 := hb2.size
  (try simp at hz2 hBl)
  have ha2 : w.heap.size < w2.heap.size := by omega
  have hb2' : w.heap.size + 1 < w2.heap.size := by omega
  have hc2' : w.heap.size + 1 + 1 < w2.heap.size := by omega
  have HR : Hid (w2.rowIs B 48 (n * 11) (fl q)) := hR
  clear hb2 hR
  go_wp2_with fail
  have p1 : w.heap.size ≤ w.heap.size + 1 := Nat.le_add_right _ _
  have p2 : w.heap.size ≤ w.heap.size + 1 + 1 := Nat.le_add_right _ 2
  exact bodyPost_ret (v := tOf (some ⟨B, 0, none⟩) n n t) (by simp [results, Try.results17, go_sem, hc2]) rfl ⟨⟨B, rfl, by omega, (((HR.out.setOther (a := ⟨w.heap.size + 1 + 1, 0, none⟩) (by simp; omega) _).setOther (a := ⟨w.heap.size + 1 + 1, 1, none⟩) (by simp; omega) _).setOther (a := ⟨w.heap.size + 1, 0, none⟩) (by simp; omega) _).setOther (a := ⟨w.heap.size + 1, 1, none⟩) (by simp; omega) _⟩, st1 (st1 (st1 (st1 hB p2 _) p2 _) p1 _) p1 _⟩

set_option maxRecDepth 100000 in
set_option maxHeartbeats 2000000 in
theorem eqTable_calls (a a' : Option Addr) (n cap cap' : Nat) (t : Int) (q : Nat → PD) (w : World) (hn : n ≤ 1048576) (hq : ∀ i, i < n → (q i).wf) (hT : Tab w a n q) (hT' : Tab w a' n q) :
    Calls Try.prog 19 #[tOf a n cap t, tOf a' n cap' t] w fun e w' => e = .returned (.bool true) ∧ Below w.heap.size w w' := by
  have HT : Hid (Tab w a n q) := hT
  have HT' : Hid (Tab w a' n q) := hT'
  have hQ : Hid (∀ i, i < n → (q i).wf) := hq
  clear hT hT' hq
  go_enter Try.func19, Try.ntmps19
  go_wp2_with fail
  refine (eqPairS_calls a a' n cap cap' q _ hn hQ.out ((HT.out.alloc _).alloc _) ((HT'.out.alloc _).alloc _)).mono ?_
  rintro e w2 ⟨rfl, hb2⟩
  have hB := below_call (below_alloc2 _ _ _) hb2
  obtain ⟨hc2, hf2⟩ := bcell hb2
  clear hb2 hf2
  go_wp2_with fail
  go_ret
  exact ⟨rfl, hB⟩
end Go.Proofs.Ytiidepafifodjab
