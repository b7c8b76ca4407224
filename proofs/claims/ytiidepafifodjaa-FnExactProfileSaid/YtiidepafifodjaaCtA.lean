import Derived.Test.YtiidepafifodjaaRpC
import Derived.Test.YtiidepafifodjaaPfA
/-! Counts: how they lie, held against each other, marked, and the marks held. -/
namespace Go.Proofs.Ytiidepafifodjaa
open Go.RowKit
attribute [local go_sem] run_store_float
attribute [local go_sem ↓] Go.wp_at_zero Go.wp_at_succ

instance : Inhabited CT := ⟨⟨0, 0, 0⟩⟩
abbrev ctC (c : CT) : Array Value := #[.int .i64 c.f, .int .i64 c.l, .int .i64 c.h]
abbrev ctV (c : CT) : Value := .agg #[.int .i64 c.f, .int .i64 c.l, .int .i64 c.h]
def ctS : List CT → List Value
  | [] => []
  | c :: r => .int .i64 c.f :: .int .i64 c.l :: .int .i64 c.h :: ctS r
theorem ctS_len : ∀ xs : List CT, (ctS xs).length = xs.length * 3
  | [] => rfl
  | c :: r => by simp only [ctS, List.length_cons, ctS_len r]; omega
theorem ctS_append : ∀ xs ys : List CT, ctS (xs ++ ys) = ctS xs ++ ctS ys
  | [], _ => rfl
  | c :: r, ys => by simp only [List.cons_append, ctS, ctS_append r ys]
theorem ctS_get : ∀ (xs : List CT) (i j : Nat), i < xs.length → j < 3 → (ctS xs)[i * 3 + j]? = (ctC (xs.getD i default))[j]?
  | [], i, _, h, _ => by simp at h
  | c :: r, 0, j, _, hj => by
    rcases (show j = 0 ∨ j = 1 ∨ j = 2 by omega) with rfl | rfl | rfl <;> rfl
  | c :: r, i + 1, j, h, hj => by
    have e : (i + 1) * 3 + j = (i * 3 + j) + 3 := by omega
    have := ctS_get r i j (by simpa using h) hj
    rw [e]
    simpa [ctS] using this
def CtAt (L : Nat) (w : World) (a : Option Addr) (xs : List CT) : Prop := RowN 3 L w a xs.length fun i => ctC (xs.getD i default)
theorem CtAt.own {N : Nat} {w : World} {a : Option Addr} {cap : Nat} {xs : List CT} (h : w.ownsRow N 94 3 (.slice a xs.length cap) xs.length (ctS xs)) : CtAt N w a xs := fun hn => by
  rcases h.2 with ⟨_, h0⟩ | ⟨g, cap', cur, e, hb, hg, _⟩
  · omega
  · cases e
    refine ⟨g, 0, rfl, hb, (Array.getElem?_eq_some_iff.1 hg).1, fun i hi j hj => ?_⟩
    rw [show 0 + i * 3 + j = i * 3 + j by omega, h.cellAt (i * 3 + j) (by omega), ctS_get xs i j hi hj]
theorem cells3 {L : Nat} {w : World} {n : Nat} {q : Nat → CT} {a : Option Addr} (h : RowN 3 L w a n fun i => ctC (q i)) {k : Nat} (hk : k < n) :
    ∃ b off, a = some ⟨b, off, none⟩ ∧ L ≤ b ∧ b < w.heap.size ∧ w.cell? ⟨b, off + k * 3, none⟩ = some (.int .i64 (q k).f) ∧ w.cell? ⟨b, off + k * 3 + 1, none⟩ = some (.int .i64 (q k).l) ∧ w.cell? ⟨b, off + k * 3 + 2, none⟩ = some (.int .i64 (q k).h) := by
  obtain ⟨b, off, e, h0, h1, h2⟩ := h (by omega)
  have hc := h2 k hk
  exact ⟨b, off, e, h0, h1, hc 0 (by omega), hc 1 (by omega), hc 2 (by omega)⟩

set_option maxRecDepth 100000 in
set_option maxHeartbeats 4000000 in
theorem eqCount_calls (d : CT) (w : World) : Calls Try.prog 55 #[ctV d, ctV d] w fun e w' => e = .returned (.bool true) ∧ Below w.heap.size w w' := by
  go_enter Try.func55, Try.ntmps55
  go_wp2_with fail
  all_goals go_ret
  all_goals exact ⟨rfl, below_alloc2 _ _ _⟩

set_option maxRecDepth 100000 in
set_option maxHeartbeats 8000000 in
theorem eqCountS_calls (L L' : Nat) (a a' : Option Addr) (n cap cap' : Nat) (u : Nat → CT) (w : World) (hn : n ≤ 1048576) (hT : RowN 3 L w a n fun i => ctC (u i)) (hT' : RowN 3 L' w a' n fun i => ctC (u i)) :
    Calls Try.prog 16 #[.slice a n cap, .slice a' n cap'] w fun e w' => e = .returned (.bool true) ∧ Below w.heap.size w w' := by
  have HT : Hid (RowN 3 L w a n fun i => ctC (u i)) := hT
  have HT' : Hid (RowN 3 L' w a' n fun i => ctC (u i)) := hT'
  clear hT hT'
  go_enter Try.func16, Try.ntmps16
  go_wp2_with fail
  go_loopw [5] (fun i wr => ∃ (k : Nat), k ≤ n ∧ i = .int .i64 k ∧ Below w.heap.size w wr) (fun i _ => n - (intOf i).toNat)
  case atStart => exact ⟨0, Nat.zero_le _, rfl, Below.refl _ _⟩
  case round =>
    obtain ⟨k, hk, rfl, hB⟩ := hrel
    by_cases hkn : k < n
    · obtain ⟨b, off, rfl, _, hb, d0, d1, d2⟩ := cells3 (RowN.below HT.out hB) hkn
      obtain ⟨b', off', rfl, _, hb', e0, e1, e2⟩ := cells3 (RowN.below HT'.out hB) hkn
      have k0 : (0 : Int) ≤ (k : Int) := by omega
      have k1 : (k : Int) < (n : Int) := by omega
      go_wp2_with fail
      go_region_with (go_at_call 55; refine (eqCount_calls (u k) _).mono ?_; rintro e w2 ⟨rfl, hb2⟩; (first | replace hB := below_call hB hb2 | replace hB := below_call hB.drew hb2 | replace hB := below_call hB.drew.drew hb2); clear d0 d1 d2 e0 e1 e2 hb2)
      all_goals go_wp2_with fail
      all_goals go_roundw
      case rel => exact ⟨k + 1, by omega, by go_num, hB⟩
      case measure => simp [intOf]; omega
      case rel => exact ⟨k + 1, by omega, by go_num, hB⟩
      case measure => simp [intOf]; omega
    · go_wp2_with fail
      go_ret
      exact ⟨rfl, hB⟩

theorem grownBy_tr3 {a b c : World} {r : Option Nat} (h : a.grownBy b r) (k : b.grownBy c r) : a.grownBy c r :=
  ⟨k.os.trans h.os, k.tape.trans h.tape, k.output.trans h.output, Nat.le_trans h.size k.size, fun x hx hn => (k.block x (Nat.lt_of_lt_of_le hx h.size) hn).trans (h.block x hx hn)⟩
theorem grownBy_set3 (w : World) (g j : Nat) (v : Value) : w.grownBy (w.setCell ⟨g, j, none⟩ v) (some g) :=
  ⟨rfl, rfl, rfl, by simp, fun x _ hn => Below.heap_setCell _ _ _ _ (fun e => hn (by rw [e]))⟩
/-- the block of a slice -/
def bkA : Option Addr → Option Nat
  | some p => some p.block
  | none => none
/-- n marks of three ints each, from k on, in block g -/
def MkdC (w : World) (a : Option Addr) (n : Nat) (k : Int) : Prop := 0 < n → ∃ g N f, a = some ⟨g, 0, none⟩ ∧ w.rowIs g 94 N f ∧ n * 3 ≤ N ∧ ∀ m, m < n * 3 → f m = .int .i64 (k + (m : Int))

set_option maxRecDepth 100000 in
set_option maxHeartbeats 4000000 in
theorem markCountS_own (g n cap N : Nat) (f0 : Nat → Value) (k : Int) (w : World) (hn : n ≤ 1048576) (hk : 0 < k) (hk2 : k < 1000) (hnN : n * 3 ≤ N) (hR0 : w.rowIs g 94 N f0) :
    Calls Try.prog 19 #[.slice (some ⟨g, 0, none⟩) n cap, .int .i64 k] w fun e w' => e = .returned (.int .i64 (k + (n : Int) * 3)) ∧ (∃ f, w'.rowIs g 94 N f ∧ ∀ m, m < n * 3 → f m = .int .i64 (k + (m : Int))) ∧ w.grownBy w' (some g) := by
  have HR0 : Hid (w.rowIs g 94 N f0) := hR0
  clear hR0
  go_enter Try.func19, Try.ntmps19
  go_wp2_with fail
  go_loopw [1, 5] (fun kv i wr => ∃ (m : Nat) (f : Nat → Value), m ≤ n ∧ kv = .int .i64 (k + (m : Int) * 3) ∧ i = .int .i64 m ∧ Hid (wr.rowIs g 94 N f ∧ (∀ j, j < m * 3 → f j = .int .i64 (k + (j : Int))) ∧ w.grownBy wr (some g))) (fun _ i _ => n - (intOf i).toNat)
  case atStart => exact ⟨0, f0, Nat.zero_le _, by simp, rfl, HR0.out, fun j hj => by omega, World.grownBy.refl _ _⟩
  case round =>
    obtain ⟨m, f, hm, rfl, rfl, HI⟩ := hrel
    by_cases hmn : m < n
    · have g0 := HI.out.1.cell (i := m * 3) (by omega)
      have g1 := HI.out.1.cell (i := m * 3 + 1) (by omega)
      have g2 := HI.out.1.cell (i := m * 3 + 2) (by omega)
      have z := HI.out.1.frozen
      have HI2 : Hid (∃ f' : Nat → Value, (((wr.setCell ⟨g, m * 3, none⟩ (.int .i64 (k + (m : Int) * 3))).setCell ⟨g, m * 3 + 1, none⟩ (.int .i64 (k + (m : Int) * 3 + 1))).setCell ⟨g, m * 3 + 2, none⟩ (.int .i64 (k + (m : Int) * 3 + 1 + 1))).rowIs g 94 N f' ∧ (∀ j, j < (m + 1) * 3 → f' j = .int .i64 (k + (j : Int))) ∧ w.grownBy (((wr.setCell ⟨g, m * 3, none⟩ (.int .i64 (k + (m : Int) * 3))).setCell ⟨g, m * 3 + 1, none⟩ (.int .i64 (k + (m : Int) * 3 + 1))).setCell ⟨g, m * 3 + 2, none⟩ (.int .i64 (k + (m : Int) * 3 + 1 + 1))) (some g)) := by
        obtain ⟨h1, h2, h3⟩ := HI.out
        refine ⟨_, ((h1.set _ _).set _ _).set _ _, fun j hj => ?_, grownBy_tr3 (grownBy_tr3 (grownBy_tr3 h3 (grownBy_set3 _ _ _ _)) (grownBy_set3 _ _ _ _)) (grownBy_set3 _ _ _ _)⟩
        by_cases c2 : j = m * 3 + 2
        · subst c2; rw [if_pos rfl]; congr 1; omega
        rw [if_neg c2]
        by_cases c1 : j = m * 3 + 1
        · subst c1; rw [if_pos rfl]; congr 1; omega
        rw [if_neg c1]
        by_cases c0 : j = m * 3
        · subst c0; rw [if_pos rfl]; congr 1
        rw [if_neg c0]
        exact h2 j (by omega)
      clear HI
      go_wp2_with fail
      go_roundw
      case rel =>
        obtain ⟨f', h1, h2, h3⟩ := HI2.out
        exact ⟨m + 1, f', by omega, by go_num, by go_num, h1, h2, h3⟩
      case measure => simp [intOf]; omega
    · obtain rfl : m = n := by omega
      go_wp2_with fail
      go_ret
      exact ⟨rfl, ⟨f, HI.out.1, HI.out.2.1⟩, HI.out.2.2⟩

set_option maxRecDepth 100000 in
set_option maxHeartbeats 4000000 in
theorem markCountS_none (cap : Nat) (a : Option Addr) (k : Int) (w : World) :
    Calls Try.prog 19 #[.slice a 0 cap, .int .i64 k] w fun e w' => e = .returned (.int .i64 (k + ((0 : Nat) : Int) * 3)) ∧ w' = w := by
  go_enter Try.func19, Try.ntmps19
  go_wp2_with fail
  refine wp_loop_rounds 1 ?_
  rw [rounds_succ]; go_wp2_with fail
  go_ret
  exact ⟨by simp, rfl⟩
theorem markCountS_calls (N : Nat) (a : Option Addr) (cap : Nat) (xs : List CT) (k : Int) (w : World) (hn : xs.length ≤ 1048576) (hk : 0 < k) (hk2 : k < 1000) (ho : w.ownsRow N 94 3 (.slice a xs.length cap) xs.length (ctS xs)) :
    Calls Try.prog 19 #[.slice a xs.length cap, .int .i64 k] w fun e w' => e = .returned (.int .i64 (k + (xs.length : Int) * 3)) ∧ MkdC w' a xs.length k ∧ w.grownBy w' (bkA a) ∧ (∀ b, bkA a = some b → N ≤ b) := by
  have h2 := ho.2
  rcases h2 with ⟨e, h0⟩ | ⟨g, cap', cur, e, hb, hg, h1, _, h3, _⟩
  · obtain ⟨rfl, _, rfl⟩ : a = none ∧ xs.length = 0 ∧ cap = 0 := by simpa using e
    rw [h0]
    exact (markCountS_none 0 none k w).mono fun e w' ⟨he, hw⟩ => ⟨he, fun h => by omega, by rw [hw]; exact World.grownBy.refl _ _, fun b h => by cases h⟩
  · obtain ⟨rfl, rfl⟩ : a = some ⟨g, 0, none⟩ ∧ cap = cap' := by simpa using e
    have hR : w.rowIs g 94 (cap * 3) (fun i => (cur[i]?).getD undef) := ⟨cur, hg, h3, fun i hi => by simp [Array.getElem?_eq_getElem (show i < cur.size by omega)]⟩
    refine (markCountS_own g xs.length cap (cap * 3) _ k w hn hk hk2 (by omega) hR).mono fun e w' ⟨he, ⟨f, hf, hm⟩, hgr⟩ => ⟨he, fun _ => ⟨g, cap * 3, f, rfl, hf, by omega, hm⟩, hgr, fun b h => by cases h; exact hb⟩

set_option maxRecDepth 100000 in
set_option maxHeartbeats 4000000 in
theorem heldCountS_calls (a : Option Addr) (n cap : Nat) (k : Int) (w : World) (hn : n ≤ 1048576) (hk : 0 < k) (hk2 : k < 1000) (hT : MkdC w a n k) :
    Calls Try.prog 20 #[.slice a n cap, .int .i64 k] w fun e w' => e = .returned (.int .i64 (k + (n : Int) * 3)) ∧ w' = w := by
  have HT : Hid (MkdC w a n k) := hT
  clear hT
  go_enter Try.func20, Try.ntmps20
  go_wp2_with fail
  go_loopw [1, 5] (fun kv i wr => ∃ m : Nat, m ≤ n ∧ kv = .int .i64 (k + (m : Int) * 3) ∧ i = .int .i64 m ∧ wr = w) (fun _ i _ => n - (intOf i).toNat)
  case atStart => exact ⟨0, Nat.zero_le _, by simp, rfl, rfl⟩
  case round =>
    obtain ⟨m, hm, rfl, rfl, rfl⟩ := hrel
    by_cases hmn : m < n
    · obtain ⟨g, N, f, rfl, hR, hN, hf⟩ := HT.out (by omega)
      have d0 := hR.cell (i := m * 3) (by omega)
      have d1 := hR.cell (i := m * 3 + 1) (by omega)
      have d2 := hR.cell (i := m * 3 + 2) (by omega)
      rw [hf _ (by omega)] at d0 d1 d2
      have e0 : k + ((m * 3 : Nat) : Int) = k + (m : Int) * 3 := by omega
      have e1 : k + ((m * 3 + 1 : Nat) : Int) = k + (m : Int) * 3 + 1 := by omega
      have e2 : k + ((m * 3 + 2 : Nat) : Int) = k + (m : Int) * 3 + 1 + 1 := by omega
      rw [e0] at d0
      rw [e1] at d1
      rw [e2] at d2
      clear hR hf e0 e1 e2
      go_wp2_with fail
      go_roundw
      case rel => exact ⟨m + 1, by omega, by go_num, by go_num, by first | rfl | trivial⟩
      case measure => simp [intOf]; omega
    · obtain rfl : m = n := by omega
      go_wp2_with fail
      go_ret
      exact ⟨rfl, rfl⟩
theorem MkdC.below {w w' : World} {a : Option Addr} {n : Nat} {k : Int} (h : MkdC w a n k) (hb : Below w.heap.size w w') : MkdC w' a n k := fun hn => by
  obtain ⟨g, N, f, e, hR, r⟩ := h hn
  exact ⟨g, N, f, e, hR.of_block (hb.block _ hR.lt), r⟩
end Go.Proofs.Ytiidepafifodjaa
