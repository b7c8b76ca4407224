import Derived.Test.YtiidepafifodjaaMarkB
/-! The laws' marks in a table: still held. -/
namespace Go.Proofs.Ytiidepafifodjaa
open Go.RowKit
attribute [local go_sem] run_store_float
attribute [local go_sem ↓] Go.wp_at_zero Go.wp_at_succ

theorem int_self (z : Nat) (h : z < 2 ^ 53) : FloatKind.f64.format.order (floatOfInt .f64 (z : Int)) (floatOfInt .f64 (z : Int)) = some .eq := by
  have e : floatOfInt .f64 (z : Int) = Fl.enc false (z * 2 ^ 1074) := by
    have h0 := Fl.ofInt (z : Int)
    rw [h0, show decide ((z : Int) < 0) = false by simp, Int.natAbs_natCast]
  have hr := Fl.read_enc false (Fl.rep_int h)
  rw [e]
  have ho := Fl.order_fin hr hr
  generalize Fl.sv false (z * 2 ^ 1074) = c at ho
  refine ho.trans ?_
  rw [show compare c c = .eq by simp]

set_option maxRecDepth 100000 in
set_option maxHeartbeats 4000000 in
theorem heldPairS_calls (a : Option Addr) (n cap : Nat) (k : Nat) (w : World) (hk : 0 < k) (hk2 : k + n * 11 ≤ 100000000) (hT : Tab w a n (mkq k)) :
    Calls Try.prog 80 #[.slice a n cap, .int .i64 k] w fun e w' => e = .returned (.int .i64 ((k + n * 11 : Nat) : Int)) ∧ Below w.heap.size w w' := by
  have HT : Hid (Tab w a n (mkq k)) := hT
  clear hT
  go_enter Try.func80, Try.ntmps80
  go_wp2_with fail
  go_loopw [1, 5] (fun kv iv wr => ∃ (i : Nat), i ≤ n ∧ kv = .int .i64 ((k + i * 11 : Nat) : Int) ∧ iv = .int .i64 i ∧ Below w.heap.size w wr) (fun _ i _ => n - (intOf i).toNat)
  case atStart => exact ⟨0, Nat.zero_le _, by simp, rfl, Below.refl _ _⟩
  case round =>
    obtain ⟨i, hi, rfl, rfl, hB⟩ := hrel
    by_cases hin : i < n
    · obtain ⟨b, off, rfl, hb, hc⟩ := HT.out (by omega)
      obtain ⟨K, hK⟩ : ∃ K, k + i * 11 = K := ⟨_, rfl⟩
      rw [hK]
      have k1 : 0 < K := by omega
      have k2 : K + 11 ≤ 100000000 := by omega
      have HK : Hid (k + i * 11 = K) := hK
      clear hK
      have i1 : (i : Int) < (n : Int) := by omega
      have hc' : ∀ j, j < 11 → w.cell? ⟨b, off + i * 11 + j, none⟩ = (pCells (mkP K))[j]? := fun j hj => by rw [← HK.out]; exact hc i hin j hj
      clear hc
      have C0 := hc' 0 (by omega)
      have C1 := hc' 1 (by omega)
      have C2 := hc' 2 (by omega)
      have C3 := hc' 3 (by omega)
      have C4 := hc' 4 (by omega)
      have C5 := hc' 5 (by omega)
      have C6 := hc' 6 (by omega)
      have C7 := hc' 7 (by omega)
      have C8 := hc' 8 (by omega)
      have C9 := hc' 9 (by omega)
      have C10 := hc' 10 (by omega)
      unfold mkP at C0 C1 C2 C3 C4 C5 C6 C7 C8 C9 C10
      simp only [List.getElem?_toArray, List.getElem?_cons_zero, List.getElem?_cons_succ, Nat.add_zero] at C0 C1 C2 C3 C4 C5 C6 C7 C8 C9 C10
      clear hc'
      have hd : ∀ o, wr.cell? ⟨b, o, none⟩ = w.cell? ⟨b, o, none⟩ := fun o => hB.cell (p := ⟨b, o, none⟩) hb
      have HT3 : Hid (∀ w, Calls Try.prog 107 #[.int .i64 ((K : Int) + 1 + 1 + 1)] w fun e w' => e = .returned (.string (mt (K + 3))) ∧ Below w.heap.size w w') := fun w => markText_calls (K + 3) w (by omega) (by omega)
      have HT8 : Hid (∀ w, Calls Try.prog 107 #[.int .i64 ((K : Int) + 1 + 1 + 1 + 1 + 1 + 1 + 1 + 1)] w fun e w' => e = .returned (.string (mt (K + 8))) ∧ Below w.heap.size w w') := fun w => markText_calls (K + 8) w (by omega) (by omega)
      generalize mt (K + 3) = s3 at HT3 C3
      generalize mt (K + 8) = s8 at HT8 C8
      have q2 := int_self (K + 2) (by omega)
      have q7 := int_self (K + 7) (by omega)
      rw [show ((K + 2 : Nat) : Int) = (K : Int) + 1 + 1 by omega] at q2
      rw [show ((K + 7 : Nat) : Int) = (K : Int) + 1 + 1 + 1 + 1 + 1 + 1 + 1 by omega] at q7
      have H3 : Hid (∀ u, Below w.heap.size w u → u.cell? ⟨b, off + i * 11 + 3, none⟩ = some (.string s3)) := fun u h => (h.cell (p := ⟨b, off + i * 11 + 3, none⟩) hb).trans C3
      have H8 : Hid (∀ u, Below w.heap.size w u → u.cell? ⟨b, off + i * 11 + 8, none⟩ = some (.string s8)) := fun u h => (h.cell (p := ⟨b, off + i * 11 + 8, none⟩) hb).trans C8
      have HB : Hid (Below w.heap.size w wr) := hB
      clear hB
      go_wp2_with fail
      go_region_held3 (fun w' => w'.cell? ⟨b, off + i * 11 + 3, none⟩ = some (.string s3)) (first | (with_reducible exact H3.out _ HB4.out) | (with_reducible exact H3.out _ HB.out) | (with_reducible exact H3.out _ HB.out.drew)) ((go_at_call 107; refine (HT3.out _).mono ?_; rintro e w4 ⟨rfl, hb4⟩; have HB4 : Hid (Below w.heap.size w w4) := (by first | exact below_call HB.out hb4 | exact below_call HB.out.drew hb4); clear HB hb4))
      have hd4 : ∀ o, w4.cell? ⟨b, o, none⟩ = w.cell? ⟨b, o, none⟩ := fun o => HB4.out.cell (p := ⟨b, o, none⟩) hb
      clear hd HT3
      go_wp2_with fail
      go_region_held3 (fun w' => w'.cell? ⟨b, off + i * 11 + 8, none⟩ = some (.string s8)) (first | (with_reducible exact H8.out _ HB5.out) | (with_reducible exact H8.out _ HB4.out) | (with_reducible exact H8.out _ HB4.out.drew)) ((go_at_call 107; refine (HT8.out _).mono ?_; rintro e w5 ⟨rfl, hb5⟩; have HB5 : Hid (Below w.heap.size w w5) := (by first | exact below_call HB4.out hb5 | exact below_call HB4.out.drew hb5); clear HB4 hb5))
      have hd5 : ∀ o, w5.cell? ⟨b, o, none⟩ = w.cell? ⟨b, o, none⟩ := fun o => HB5.out.cell (p := ⟨b, o, none⟩) hb
      clear hd4 HT8
      go_wp2_with fail
      go_roundw
      case rel => exact ⟨i + 1, by omega, by have := HK.out; rw [← this]; go_num, by go_num, HB5.out⟩
      case measure => simp [intOf]; omega
    · have : i = n := by omega
      subst this
      go_wp2_with fail
      go_ret
      exact ⟨rfl, hB⟩
end Go.Proofs.Ytiidepafifodjaa

/-! The laws' marks: tables. -/
namespace Go.Proofs.Ytiidepafifodjaa
open Go.RowKit
attribute [local go_sem] run_store_float
attribute [local go_sem ↓] Go.wp_at_zero Go.wp_at_succ

def blkOf (a : Option Addr) : Option Nat := a.map (·.block)
/-- a row that may be written -/
def RowW (w : World) (a : Option Addr) (n : Nat) : Prop := n = 0 ∨ ∃ b cur T, a = some ⟨b, 0, none⟩ ∧ w.heap[b]? = some (.cells cur T (0, 0)) ∧ n * 11 ≤ cur.size
theorem RowW.below {w w' : World} {a : Option Addr} {n : Nat} (h : RowW w a n) (hb : Below w.heap.size w w') : RowW w' a n := by
  rcases h with h | ⟨b, cur, T, e, hh, hs⟩
  · exact .inl h
  · exact .inr ⟨b, cur, T, e, (hb.block b (Array.getElem?_eq_some_iff.1 hh).1).trans hh, hs⟩
theorem RowW.of_own {N : Nat} {w : World} {a : Option Addr} {n cap : Nat} {T : TypeId} {xs : List Value} (h : w.ownsRow N T 11 (.slice a n cap) n xs) : RowW w a n := by
  obtain ⟨_, h2⟩ := h
  rcases h2 with ⟨_, h2⟩ | ⟨g, cap', cur, e, _, hh, h4, _, h6, _⟩
  · exact .inl h2
  · cases e
    exact .inr ⟨g, cur, T, rfl, hh, by rw [h6]; exact Nat.mul_le_mul_right 11 h4⟩
theorem RowW.of_row {w : World} {B n : Nat} {t : TypeId} {f : Nat → Value} (h : w.rowIs B t (n * 11) f) : RowW w (some ⟨B, 0, none⟩) n := by
  obtain ⟨c, hh, hs, _⟩ := h
  exact .inr ⟨B, c, t, rfl, hh, by omega⟩
theorem MW.tab {w wr : World} {b : Nat} {T : TypeId} {size n : Nat} {q : Nat → PD} (h : MW w wr b T size (n * 11) (fl q)) : Tab wr (some ⟨b, 0, none⟩) n q := fun hn => by
  have hl := h.lt
  obtain ⟨cur, hh, hs, hc⟩ := h.h
  refine ⟨b, 0, rfl, hl, fun i hi j hj => ?_⟩
  rw [Nat.zero_add]
  have h1 := hc (i * 11 + j) (by omega)
  rw [fl_at q i j hj, ← pCells_at _ _ hj] at h1
  have h4 : wr.cell? ⟨b, i * 11 + j, none⟩ = cur[i * 11 + j]? := by simp [World.cell?, hh]
  rw [h4, h1]

set_option maxRecDepth 100000 in
set_option maxHeartbeats 4000000 in
theorem markPairS_none (a : Option Addr) (cap : Nat) (k : Nat) (w : World) :
    Calls Try.prog 79 #[.slice a 0 cap, .int .i64 k] w fun e w' => e = .returned (.int .i64 (k : Int)) ∧ w' = w := by
  go_enter Try.func79, Try.ntmps79
  go_wp2_with fail
  go_loopw [1, 5] (fun kv iv wr => kv = .int .i64 (k : Int) ∧ iv = .int .i64 0 ∧ wr = w) (fun _ i _ => (intOf i).toNat)
  case atStart => exact ⟨rfl, rfl, rfl⟩
  case round =>
    obtain ⟨rfl, rfl, rfl⟩ := hrel
    go_wp2_with fail
    go_ret
    exact ⟨rfl, rfl⟩

set_option maxRecDepth 100000 in
set_option maxHeartbeats 4000000 in
theorem markTable_calls (a : Option Addr) (n cap : Nat) (t : Int) (k : Nat) (w : World) (hk : 0 < k) (hk2 : k + n * 11 ≤ 100000000) (hR : RowW w a n) :
    Calls Try.prog 32 #[tOf a n cap t, .int .i64 k] w fun e w' => e = .returned (.int .i64 ((k + n * 11 : Nat) : Int)) ∧ Tab w' a n (mkq k) ∧ w.grownBy w' (blkOf a) := by
  rcases hR with rfl | ⟨b, cur, T, rfl, hh, hs⟩
  · have HP : Hid (∀ w, Calls Try.prog 79 #[.slice a 0 cap, .int .i64 k] w fun e w' => e = .returned (.int .i64 (k : Int)) ∧ w' = w) := fun w => markPairS_none a cap k w
    go_enter Try.func32, Try.ntmps32
    go_wp2_with fail
    refine (HP.out _).mono ?_
    rintro e w2 ⟨rfl, rfl⟩
    go_wp2_with fail
    go_ret
    exact ⟨by simp, fun h => absurd h (Nat.lt_irrefl 0), World.grownBy_alloc _ _ _⟩
  · have hl := (Array.getElem?_eq_some_iff.1 hh).1
    have HP : Hid (Calls Try.prog 79 #[.slice (some ⟨b, 0, none⟩) n cap, .int .i64 k] (w.alloc (.cells #[.slice (some ⟨b, 0, none⟩) n cap, .int .i64 t] 59)) fun e w' => e = .returned (.int .i64 ((k + n * 11 : Nat) : Int)) ∧ MW (w.alloc (.cells #[.slice (some ⟨b, 0, none⟩) n cap, .int .i64 t] 59)) w' b T cur.size (n * 11) (fl (mkq k))) := markPairS_calls b n cap cur.size T k _ hk hk2 hs ⟨cur, (Below.heap_alloc w _ b hl).trans hh, rfl⟩
    clear hh hs
    go_enter Try.func32, Try.ntmps32
    go_wp2_with fail
    refine Calls.mono HP.out ?_
    rintro e w2 ⟨rfl, hM⟩
    have HM : Hid _ := hM
    clear hM
    go_wp2_with fail
    go_ret
    exact ⟨rfl, HM.out.tab, grown_trans (World.grownBy_alloc w _ _) HM.out.g⟩

set_option maxRecDepth 100000 in
set_option maxHeartbeats 4000000 in
theorem heldTable_calls (a : Option Addr) (n cap : Nat) (t : Int) (k : Nat) (w : World) (hk : 0 < k) (hk2 : k + n * 11 ≤ 100000000) (hT : Tab w a n (mkq k)) :
    Calls Try.prog 33 #[tOf a n cap t, .int .i64 k] w fun e w' => e = .returned (.int .i64 ((k + n * 11 : Nat) : Int)) ∧ Below w.heap.size w w' := by
  have HT : Hid (Tab w a n (mkq k)) := hT
  clear hT
  go_enter Try.func33, Try.ntmps33
  go_wp2_with fail
  refine (heldPairS_calls a n cap k _ hk hk2 (HT.out.alloc _)).mono ?_
  rintro e w2 ⟨rfl, hb2⟩
  have hB := below_call (below_alloc _ _) hb2
  clear hb2
  obtain ⟨m, hm⟩ : ∃ m, k + n * 11 = m := ⟨_, rfl⟩
  rw [hm]
  have Hm : Hid (k + n * 11 = m) := hm
  clear hm
  go_wp2_with fail
  go_ret
  exact ⟨by rw [Hm.out]; rfl, hB⟩
end Go.Proofs.Ytiidepafifodjaa
