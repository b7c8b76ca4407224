import Derived.Test.YtiidepafifodjaaDoorTlB
/-! Bytes held against each other, marked, and the marks held. -/
namespace Go.Proofs.YtiidepafifodjaaDoor
open Go.RowKit
attribute [local go_sem] run_store_float
attribute [local go_sem ↓] Go.wp_at_zero Go.wp_at_succ

/-- bytes, as cells -/
def ByAt (L : Nat) (w : World) (a : Option Addr) (l : List UInt8) : Prop := RowN 1 L w a l.length fun i => #[.int .u8 ((l.getD i 0).toNat : Int)]
theorem byS_get (l : List UInt8) (i : Nat) (hi : i < l.length) : (byS l)[i]? = some (.int .u8 ((l.getD i 0).toNat : Int)) := by
  simp [byS, List.getElem?_eq_getElem hi, List.getD_eq_getElem?_getD]
theorem ByAt.own {N : Nat} {w : World} {a : Option Addr} {cap : Nat} {l : List UInt8} (h : OwB N w a cap l) : ByAt N w a l := fun hn => by
  rcases h.2 with ⟨_, h0⟩ | ⟨g, cap', cur, e, hb, hg, _⟩
  · omega
  · cases e
    refine ⟨g, 0, rfl, hb, (Array.getElem?_eq_some_iff.1 hg).1, fun i hi j hj => ?_⟩
    obtain rfl : j = 0 := by omega
    rw [show 0 + i * 1 + 0 = i by omega, h.cellAt i (by omega), byS_get l i hi]
    rfl
theorem cellsB1 {L : Nat} {w : World} {n : Nat} {q : Nat → Int} {a : Option Addr} (h : RowN 1 L w a n fun i => #[.int .u8 (q i)]) {k : Nat} (hk : k < n) :
    ∃ b off, a = some ⟨b, off, none⟩ ∧ L ≤ b ∧ b < w.heap.size ∧ w.cell? ⟨b, off + k, none⟩ = some (.int .u8 (q k)) := by
  obtain ⟨b, off, e, h0, h1, h2⟩ := h (by omega)
  have hc := h2 k hk 0 (by omega)
  rw [show off + k * 1 + 0 = off + k by omega] at hc
  exact ⟨b, off, e, h0, h1, hc⟩

set_option maxRecDepth 100000 in
set_option maxHeartbeats 8000000 in
theorem eqByteS_calls (L L' : Nat) (a a' : Option Addr) (n cap cap' : Nat) (u : Nat → Int) (w : World) (hn : n ≤ 4000000000000) (hT : RowN 1 L w a n fun i => #[.int .u8 (u i)]) (hT' : RowN 1 L' w a' n fun i => #[.int .u8 (u i)]) :
    Calls Tryd.prog 9 #[.slice a n cap, .slice a' n cap'] w fun e w' => e = .returned (.bool true) ∧ Below w.heap.size w w' := by
  have HT : Hid (RowN 1 L w a n fun i => #[.int .u8 (u i)]) := hT
  have HT' : Hid (RowN 1 L' w a' n fun i => #[.int .u8 (u i)]) := hT'
  clear hT hT'
  go_enter Tryd.func9, Tryd.ntmps9
  go_wp2_with fail
  go_loopw [5] (fun i wr => ∃ (k : Nat), k ≤ n ∧ i = .int .i64 k ∧ Below w.heap.size w wr) (fun i _ => n - (intOf i).toNat)
  case atStart => exact ⟨0, Nat.zero_le _, rfl, Below.refl _ _⟩
  case round =>
    obtain ⟨k, hk, rfl, hB⟩ := hrel
    by_cases hkn : k < n
    · obtain ⟨b, off, rfl, _, hb, d0⟩ := cellsB1 (RowN.below HT.out hB) hkn
      obtain ⟨b', off', rfl, _, hb', e0⟩ := cellsB1 (RowN.below HT'.out hB) hkn
      have k0 : (0 : Int) ≤ (k : Int) := by omega
      have k1 : (k : Int) < (n : Int) := by omega
      go_wp2_with fail
      go_region_with fail
      all_goals go_wp2_with fail
      all_goals go_roundw
      case rel => exact ⟨k + 1, by omega, by go_num, hB.drew⟩
      case measure => simp [intOf]; omega
      case rel => exact ⟨k + 1, by omega, by go_num, hB.drew⟩
      case measure => simp [intOf]; omega
    · go_wp2_with fail
      go_ret
      exact ⟨rfl, hB⟩

theorem grownBy_tr1 {a b c : World} {r : Option Nat} (h : a.grownBy b r) (k : b.grownBy c r) : a.grownBy c r :=
  ⟨k.os.trans h.os, k.tape.trans h.tape, k.output.trans h.output, Nat.le_trans h.size k.size, fun x hx hn => (k.block x (Nat.lt_of_lt_of_le hx h.size) hn).trans (h.block x hx hn)⟩
theorem grownBy_set1 (w : World) (g j : Nat) (v : Value) : w.grownBy (w.setCell ⟨g, j, none⟩ v) (some g) :=
  ⟨rfl, rfl, rfl, by simp, fun x _ hn => Below.heap_setCell _ _ _ _ (fun e => hn (by rw [e]))⟩
/-- the block of a slice -/
def bkO : Option Addr → Option Nat
  | some p => some p.block
  | none => none
/-- n marks, from k on, in block g -/
def MkdB (w : World) (a : Option Addr) (n : Nat) (k : Int) : Prop := 0 < n → ∃ g N f, a = some ⟨g, 0, none⟩ ∧ w.rowIs g 5 N f ∧ n ≤ N ∧ ∀ m, m < n → f m = .int .u8 ((k + (m : Int)) % 256)

set_option maxRecDepth 100000 in
set_option maxHeartbeats 4000000 in
theorem markByteS_own (g n cap N : Nat) (f0 : Nat → Value) (k : Int) (w : World) (hn : n ≤ 4000000000000) (hk : 0 < k) (hk2 : k < 1000) (hnN : n ≤ N) (hR0 : w.rowIs g 5 N f0) :
    Calls Tryd.prog 12 #[.slice (some ⟨g, 0, none⟩) n cap, .int .i64 k] w fun e w' => e = .returned (.int .i64 (k + (n : Int))) ∧ (∃ f, w'.rowIs g 5 N f ∧ ∀ m, m < n → f m = .int .u8 ((k + (m : Int)) % 256)) ∧ w.grownBy w' (some g) := by
  have HR0 : Hid (w.rowIs g 5 N f0) := hR0
  clear hR0
  go_enter Tryd.func12, Tryd.ntmps12
  go_wp2_with fail
  go_loopw [1, 5] (fun kv i wr => ∃ (m : Nat) (f : Nat → Value), m ≤ n ∧ kv = .int .i64 (k + (m : Int)) ∧ i = .int .i64 m ∧ Hid (wr.rowIs g 5 N f ∧ (∀ j, j < m → f j = .int .u8 ((k + (j : Int)) % 256)) ∧ w.grownBy wr (some g))) (fun _ i _ => n - (intOf i).toNat)
  case atStart => exact ⟨0, f0, Nat.zero_le _, by simp, rfl, HR0.out, fun j hj => by omega, World.grownBy.refl _ _⟩
  case round =>
    obtain ⟨m, f, hm, rfl, rfl, HI⟩ := hrel
    by_cases hmn : m < n
    · have g0 := HI.out.1.cell (i := m) (by omega)
      have z := HI.out.1.frozen
      have HI2 : Hid (∃ f' : Nat → Value, (wr.setCell ⟨g, m, none⟩ (.int .u8 ((k + (m : Int)) % 256))).rowIs g 5 N f' ∧ (∀ j, j < m + 1 → f' j = .int .u8 ((k + (j : Int)) % 256)) ∧ w.grownBy (wr.setCell ⟨g, m, none⟩ (.int .u8 ((k + (m : Int)) % 256))) (some g)) := by
        obtain ⟨h1, h2, h3⟩ := HI.out
        refine ⟨_, h1.set _ _, fun j hj => ?_, grownBy_tr1 h3 (grownBy_set1 _ _ _ _)⟩
        by_cases c0 : j = m
        · subst c0; rw [if_pos rfl]
        rw [if_neg c0]
        exact h2 j (by omega)
      clear HI
      go_wp2_with fail
      go_roundw
      case rel =>
        obtain ⟨f', h1, h2, h3⟩ := HI2.out
        exact ⟨m + 1, f', by omega, by go_num, by go_num, h1, h2, h3⟩
      case measure => simp [intOf]; omega
    · obtain rfl : m = n := by omega
      go_wp2_with fail
      go_ret
      exact ⟨rfl, ⟨f, HI.out.1, HI.out.2.1⟩, HI.out.2.2⟩

set_option maxRecDepth 100000 in
set_option maxHeartbeats 4000000 in
theorem markByteS_none (cap : Nat) (a : Option Addr) (k : Int) (w : World) :
    Calls Tryd.prog 12 #[.slice a 0 cap, .int .i64 k] w fun e w' => e = .returned (.int .i64 (k + ((0 : Nat) : Int))) ∧ w' = w := by
  go_enter Tryd.func12, Tryd.ntmps12
  go_wp2_with fail
  refine wp_loop_rounds 1 ?_
  rw [rounds_succ]; go_wp2_with fail
  go_ret
  exact ⟨by simp, rfl⟩
theorem markByteS_calls (N : Nat) (a : Option Addr) (cap : Nat) (xs : List UInt8) (k : Int) (w : World) (hn : xs.length ≤ 4000000000000) (hk : 0 < k) (hk2 : k < 1000) (ho : OwB N w a cap xs) :
    Calls Tryd.prog 12 #[.slice a xs.length cap, .int .i64 k] w fun e w' => e = .returned (.int .i64 (k + (xs.length : Int))) ∧ MkdB w' a xs.length k ∧ w.grownBy w' (bkO a) ∧ (∀ b, bkO a = some b → N ≤ b) := by
  have h2 := ho.2
  rcases h2 with ⟨e, h0⟩ | ⟨g, cap', cur, e, hb, hg, h1, _, h3, _⟩
  · obtain ⟨rfl, _, rfl⟩ : a = none ∧ xs.length = 0 ∧ cap = 0 := by simpa using e
    rw [h0]
    exact (markByteS_none 0 none k w).mono fun e w' ⟨he, hw⟩ => ⟨he, fun h => by omega, by rw [hw]; exact World.grownBy.refl _ _, fun b h => by cases h⟩
  · obtain ⟨rfl, rfl⟩ : a = some ⟨g, 0, none⟩ ∧ cap = cap' := by simpa using e
    have hR : w.rowIs g 5 (cap * 1) (fun i => (cur[i]?).getD undef) := ⟨cur, hg, h3, fun i hi => by simp [Array.getElem?_eq_getElem (show i < cur.size by omega)]⟩
    refine (markByteS_own g xs.length cap (cap * 1) _ k w hn hk hk2 (by omega) hR).mono fun e w' ⟨he, ⟨f, hf, hm⟩, hgr⟩ => ⟨he, fun _ => ⟨g, cap * 1, f, rfl, hf, by omega, hm⟩, hgr, fun b h => by cases h; exact hb⟩

set_option maxRecDepth 100000 in
set_option maxHeartbeats 4000000 in
theorem heldByteS_calls (a : Option Addr) (n cap : Nat) (k : Int) (w : World) (hn : n ≤ 4000000000000) (hk : 0 < k) (hk2 : k < 1000) (hT : MkdB w a n k) :
    Calls Tryd.prog 13 #[.slice a n cap, .int .i64 k] w fun e w' => e = .returned (.int .i64 (k + (n : Int))) ∧ w' = w := by
  have HT : Hid (MkdB w a n k) := hT
  clear hT
  go_enter Tryd.func13, Tryd.ntmps13
  go_wp2_with fail
  go_loopw [1, 5] (fun kv i wr => ∃ m : Nat, m ≤ n ∧ kv = .int .i64 (k + (m : Int)) ∧ i = .int .i64 m ∧ wr = w) (fun _ i _ => n - (intOf i).toNat)
  case atStart => exact ⟨0, Nat.zero_le _, by simp, rfl, rfl⟩
  case round =>
    obtain ⟨m, hm, rfl, rfl, rfl⟩ := hrel
    by_cases hmn : m < n
    · obtain ⟨g, N, f, rfl, hR, hN, hf⟩ := HT.out (by omega)
      have d0 := hR.cell (i := m) (by omega)
      rw [hf _ (by omega)] at d0
      clear hR hf
      go_wp2_with fail
      go_roundw
      case rel => exact ⟨m + 1, by omega, by go_num, by go_num, by first | rfl | trivial⟩
      case measure => simp [intOf]; omega
    · obtain rfl : m = n := by omega
      go_wp2_with fail
      go_ret
      exact ⟨rfl, rfl⟩
theorem MkdB.below {w w' : World} {a : Option Addr} {n : Nat} {k : Int} (h : MkdB w a n k) (hb : Below w.heap.size w w') : MkdB w' a n k := fun hn => by
  obtain ⟨g, N, f, e, hR, r⟩ := h hn
  exact ⟨g, N, f, e, hR.of_block (hb.block _ hR.lt), r⟩
end Go.Proofs.YtiidepafifodjaaDoor
