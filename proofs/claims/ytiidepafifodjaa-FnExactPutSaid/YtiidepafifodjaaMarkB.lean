import Derived.Test.YtiidepafifodjaaMark
import Derived.Test.YtiidepafifodjaaPutG
/-! The laws' marks in a table. -/
namespace Go.Proofs.Ytiidepafifodjaa
open Go.RowKit
attribute [local go_sem] run_store_float
attribute [local go_sem ↓] Go.wp_at_zero Go.wp_at_succ

/-- the marks of one pair -/
def mkP (K : Nat) : PD := ⟨⟨(K : Int), (K : Int) + 1, floatOfInt .f64 ((K : Int) + 1 + 1), mt (K + 3), (K : Int) + 1 + 1 + 1 + 1⟩, ⟨(K : Int) + 1 + 1 + 1 + 1 + 1, (K : Int) + 1 + 1 + 1 + 1 + 1 + 1, floatOfInt .f64 ((K : Int) + 1 + 1 + 1 + 1 + 1 + 1 + 1), mt (K + 8), (K : Int) + 1 + 1 + 1 + 1 + 1 + 1 + 1 + 1 + 1⟩, (K : Int) + 1 + 1 + 1 + 1 + 1 + 1 + 1 + 1 + 1 + 1⟩
def mkq (k : Nat) : Nat → PD := fun i => mkP (k + i * 11)
/-- the first m cells of block b -/
structure MW (w wr : World) (b : Nat) (T : TypeId) (size m : Nat) (f : Nat → Value) : Prop where
  h : ∃ cur, wr.heap[b]? = some (.cells cur T (0, 0)) ∧ cur.size = size ∧ ∀ j, j < m → cur[j]? = some (f j)
  g : w.grownBy wr (some b)
theorem MW.cell {w wr : World} {b : Nat} {T : TypeId} {size m : Nat} {f : Nat → Value} (h : MW w wr b T size m f) {j : Nat} (hj : j < size) : ∃ v, wr.cell? ⟨b, j, none⟩ = some v := by
  obtain ⟨cur, hh, hs, _⟩ := h.h
  refine ⟨cur[j]'(by omega), ?_⟩
  simp [World.cell?, hh]
theorem MW.fro {w wr : World} {b : Nat} {T : TypeId} {size m : Nat} {f : Nat → Value} (h : MW w wr b T size m f) (o : Nat) : wr.frozen? ⟨b, o, none⟩ = false := by
  obtain ⟨cur, hh, hs, _⟩ := h.h
  simp [World.frozen?, hh]
theorem MW.lt {w wr : World} {b : Nat} {T : TypeId} {size m : Nat} {f : Nat → Value} (h : MW w wr b T size m f) : b < wr.heap.size := by
  obtain ⟨cur, hh, _⟩ := h.h
  exact (Array.getElem?_eq_some_iff.1 hh).1
theorem MW.put {w wr : World} {b : Nat} {T : TypeId} {size m : Nat} {f : Nat → Value} (h : MW w wr b T size m f) (vs : List Value) (hm : m + vs.length ≤ size) (hv : ∀ j, j < vs.length → some (f (m + j)) = vs[j]?) : MW w (wr.setCells b m vs) b T size (m + vs.length) f := by
  obtain ⟨cur, hh, hs, hc⟩ := h.h
  obtain ⟨c1, a1, a2, a3, a4⟩ := heap_setCells_at b T vs m wr cur hh (by omega)
  refine ⟨⟨c1, a1, a2.trans hs, fun j hj => ?_⟩, grown_trans h.g (grown_setCells b vs m wr)⟩
  by_cases c : j < m
  · rw [a3 j (.inl c), hc j c]
  · obtain ⟨r, rfl⟩ : ∃ r, j = m + r := ⟨j - m, by omega⟩
    rw [a4 r (by omega), ← hv r (by omega)]
theorem MW.below {w wr w2 : World} {b : Nat} {T : TypeId} {size m : Nat} {f : Nat → Value} (h : MW w wr b T size m f) (hb : Below wr.heap.size wr w2) : MW w w2 b T size m f := by
  have hl := h.lt
  obtain ⟨cur, hh, hs, hc⟩ := h.h
  exact ⟨⟨cur, (hb.block b hl).trans hh, hs, hc⟩, grown_trans h.g ⟨hb.os, hb.tape, hb.output, hb.size, fun k hk _ => hb.block k hk⟩⟩

set_option maxRecDepth 100000 in
set_option maxHeartbeats 4000000 in
theorem markPairS_calls (b n cap size : Nat) (T : TypeId) (k : Nat) (w : World) (hk : 0 < k) (hk2 : k + n * 11 ≤ 100000000) (hs : n * 11 ≤ size) (hW : ∃ cur, w.heap[b]? = some (.cells cur T (0, 0)) ∧ cur.size = size) :
    Calls Try.prog 79 #[.slice (some ⟨b, 0, none⟩) n cap, .int .i64 k] w fun e w' => e = .returned (.int .i64 ((k + n * 11 : Nat) : Int)) ∧ MW w w' b T size (n * 11) (fl (mkq k)) := by
  have HW : Hid (MW w w b T size 0 (fl (mkq k))) := by
    obtain ⟨cur, h1, h2⟩ := hW
    exact ⟨⟨cur, h1, h2, fun j hj => by omega⟩, ⟨rfl, rfl, rfl, Nat.le_refl _, fun _ _ _ => rfl⟩⟩
  clear hW
  go_enter Try.func79, Try.ntmps79
  go_wp2_with fail
  go_loopw [1, 5] (fun kv iv wr => ∃ (i : Nat), i ≤ n ∧ kv = .int .i64 ((k + i * 11 : Nat) : Int) ∧ iv = .int .i64 i ∧ MW w wr b T size (i * 11) (fl (mkq k))) (fun _ i _ => n - (intOf i).toNat)
  case atStart => exact ⟨0, Nat.zero_le _, by simp, rfl, by rw [Nat.zero_mul]; exact HW.out⟩
  case round =>
    clear HW
    obtain ⟨i, hi, rfl, rfl, hM⟩ := hrel
    have HM : Hid (MW w wr b T size (i * 11) (fl (mkq k))) := hM
    clear hM
    by_cases hin : i < n
    · obtain ⟨K, hK⟩ : ∃ K, k + i * 11 = K := ⟨_, rfl⟩
      rw [hK]
      have k1 : 0 < K := by omega
      have k2 : K + 11 ≤ 100000000 := by omega
      have HK : Hid (k + i * 11 = K) := hK
      clear hK
      have i1 : (i : Int) < (n : Int) := by omega
      obtain ⟨o0, c0⟩ := HM.out.cell (j := i * 11) (by omega)
      obtain ⟨o1, c1⟩ := HM.out.cell (j := i * 11 + 1) (by omega)
      obtain ⟨o2, c2⟩ := HM.out.cell (j := i * 11 + 2) (by omega)
      obtain ⟨o3, c3⟩ := HM.out.cell (j := i * 11 + 3) (by omega)
      obtain ⟨o4, c4⟩ := HM.out.cell (j := i * 11 + 4) (by omega)
      obtain ⟨o5, c5⟩ := HM.out.cell (j := i * 11 + 5) (by omega)
      obtain ⟨o6, c6⟩ := HM.out.cell (j := i * 11 + 6) (by omega)
      obtain ⟨o7, c7⟩ := HM.out.cell (j := i * 11 + 7) (by omega)
      obtain ⟨o8, c8⟩ := HM.out.cell (j := i * 11 + 8) (by omega)
      obtain ⟨o9, c9⟩ := HM.out.cell (j := i * 11 + 9) (by omega)
      obtain ⟨o10, c10⟩ := HM.out.cell (j := i * 11 + 10) (by omega)
      have fr := HM.out.fro
      have bl := HM.out.lt
      have HT3 : Hid (∀ w, Calls Try.prog 107 #[.int .i64 ((K : Int) + 1 + 1 + 1)] w fun e w' => e = .returned (.string (mt (K + 3))) ∧ Below w.heap.size w w') := fun w => markText_calls (K + 3) w (by omega) (by omega)
      have HT8 : Hid (∀ w, Calls Try.prog 107 #[.int .i64 ((K : Int) + 1 + 1 + 1 + 1 + 1 + 1 + 1 + 1)] w fun e w' => e = .returned (.string (mt (K + 8))) ∧ Below w.heap.size w w') := fun w => markText_calls (K + 8) w (by omega) (by omega)
      have M1 : MW w (((wr.setCell ⟨b, i * 11, none⟩ (.int .i64 ((K : Int)))).setCell ⟨b, i * 11 + 1, none⟩ (.int .i64 ((K : Int) + 1))).setCell ⟨b, i * 11 + 2, none⟩ (.float .f64 (floatOfInt .f64 ((K : Int) + 1 + 1)))) b T size (i * 11 + 3) (fl (mkq k)) := by
        have h := HM.out.put [.int .i64 ((K : Int)), .int .i64 ((K : Int) + 1), .float .f64 (floatOfInt .f64 ((K : Int) + 1 + 1))] (by show _ + 3 ≤ _; omega) (fun j hj => by
          have hj' : j < 3 := hj
          rw [fl_at (mkq k) i _ (by omega), show mkq k i = mkP K by unfold mkq; rw [HK.out]]
          rcases (show j = 0 ∨ j = 1 ∨ j = 2 by omega) with rfl | rfl | rfl <;> rfl)
        simp only [World.setCells] at h
        exact h
      have HM1 : Hid (MW w (((wr.setCell ⟨b, i * 11, none⟩ (.int .i64 ((K : Int)))).setCell ⟨b, i * 11 + 1, none⟩ (.int .i64 ((K : Int) + 1))).setCell ⟨b, i * 11 + 2, none⟩ (.float .f64 (floatOfInt .f64 ((K : Int) + 1 + 1)))) b T size (i * 11 + 3) (fl (mkq k))) := M1
      clear M1
      go_wp2_with fail
      refine (HT3.out _).mono ?_
      rintro e w2 ⟨rfl, hb2⟩
      have HM2 : Hid (MW w w2 b T size (i * 11 + 3) (fl (mkq k))) := HM1.out.below hb2
      clear HM1 HT3 HM fr bl hb2 c0 c1 c2 c3 c4 c5 c6 c7 c8 c9 c10
      obtain ⟨p3, d3⟩ := HM2.out.cell (j := i * 11 + 3) (by omega)
      obtain ⟨p4, d4⟩ := HM2.out.cell (j := i * 11 + 4) (by omega)
      obtain ⟨p5, d5⟩ := HM2.out.cell (j := i * 11 + 5) (by omega)
      obtain ⟨p6, d6⟩ := HM2.out.cell (j := i * 11 + 6) (by omega)
      obtain ⟨p7, d7⟩ := HM2.out.cell (j := i * 11 + 7) (by omega)
      obtain ⟨p8, d8⟩ := HM2.out.cell (j := i * 11 + 8) (by omega)
      obtain ⟨p9, d9⟩ := HM2.out.cell (j := i * 11 + 9) (by omega)
      obtain ⟨p10, d10⟩ := HM2.out.cell (j := i * 11 + 10) (by omega)
      have fr := HM2.out.fro
      have bl := HM2.out.lt
      have M3 : MW w (((((w2.setCell ⟨b, i * 11 + 3, none⟩ (.string (mt (K + 3)))).setCell ⟨b, i * 11 + 4, none⟩ (.int .i64 ((K : Int) + 1 + 1 + 1 + 1))).setCell ⟨b, i * 11 + 5, none⟩ (.int .i64 ((K : Int) + 1 + 1 + 1 + 1 + 1))).setCell ⟨b, i * 11 + 6, none⟩ (.int .i64 ((K : Int) + 1 + 1 + 1 + 1 + 1 + 1))).setCell ⟨b, i * 11 + 7, none⟩ (.float .f64 (floatOfInt .f64 ((K : Int) + 1 + 1 + 1 + 1 + 1 + 1 + 1)))) b T size (i * 11 + 8) (fl (mkq k)) := by
        have h := HM2.out.put [.string (mt (K + 3)), .int .i64 ((K : Int) + 1 + 1 + 1 + 1), .int .i64 ((K : Int) + 1 + 1 + 1 + 1 + 1), .int .i64 ((K : Int) + 1 + 1 + 1 + 1 + 1 + 1), .float .f64 (floatOfInt .f64 ((K : Int) + 1 + 1 + 1 + 1 + 1 + 1 + 1))] (by show _ + 5 ≤ _; omega) (fun j hj => by
          have hj' : j < 5 := hj
          rw [Nat.add_assoc, fl_at (mkq k) i _ (by omega), show mkq k i = mkP K by unfold mkq; rw [HK.out]]
          rcases (show j = 0 ∨ j = 1 ∨ j = 2 ∨ j = 3 ∨ j = 4 by omega) with rfl | rfl | rfl | rfl | rfl <;> rfl)
        simp only [World.setCells] at h
        exact h
      have HM3 : Hid (MW w (((((w2.setCell ⟨b, i * 11 + 3, none⟩ (.string (mt (K + 3)))).setCell ⟨b, i * 11 + 4, none⟩ (.int .i64 ((K : Int) + 1 + 1 + 1 + 1))).setCell ⟨b, i * 11 + 5, none⟩ (.int .i64 ((K : Int) + 1 + 1 + 1 + 1 + 1))).setCell ⟨b, i * 11 + 6, none⟩ (.int .i64 ((K : Int) + 1 + 1 + 1 + 1 + 1 + 1))).setCell ⟨b, i * 11 + 7, none⟩ (.float .f64 (floatOfInt .f64 ((K : Int) + 1 + 1 + 1 + 1 + 1 + 1 + 1)))) b T size (i * 11 + 8) (fl (mkq k))) := M3
      clear M3
      go_wp2_with fail
      refine (HT8.out _).mono ?_
      rintro e w3 ⟨rfl, hb3⟩
      have HM4 : Hid (MW w w3 b T size (i * 11 + 8) (fl (mkq k))) := HM3.out.below hb3
      clear HM3 HT8 HM2 fr bl hb3 d3 d4 d5 d6 d7 d8 d9 d10
      obtain ⟨r8, e8⟩ := HM4.out.cell (j := i * 11 + 8) (by omega)
      obtain ⟨r9, e9⟩ := HM4.out.cell (j := i * 11 + 9) (by omega)
      obtain ⟨r10, e10⟩ := HM4.out.cell (j := i * 11 + 10) (by omega)
      have fr := HM4.out.fro
      have bl := HM4.out.lt
      have M5 : MW w (((w3.setCell ⟨b, i * 11 + 8, none⟩ (.string (mt (K + 8)))).setCell ⟨b, i * 11 + 9, none⟩ (.int .i64 ((K : Int) + 1 + 1 + 1 + 1 + 1 + 1 + 1 + 1 + 1))).setCell ⟨b, i * 11 + 10, none⟩ (.int .i64 ((K : Int) + 1 + 1 + 1 + 1 + 1 + 1 + 1 + 1 + 1 + 1))) b T size (i * 11 + 11) (fl (mkq k)) := by
        have h := HM4.out.put [.string (mt (K + 8)), .int .i64 ((K : Int) + 1 + 1 + 1 + 1 + 1 + 1 + 1 + 1 + 1), .int .i64 ((K : Int) + 1 + 1 + 1 + 1 + 1 + 1 + 1 + 1 + 1 + 1)] (by show _ + 3 ≤ _; omega) (fun j hj => by
          have hj' : j < 3 := hj
          rw [Nat.add_assoc, fl_at (mkq k) i _ (by omega), show mkq k i = mkP K by unfold mkq; rw [HK.out]]
          rcases (show j = 0 ∨ j = 1 ∨ j = 2 by omega) with rfl | rfl | rfl <;> rfl)
        simp only [World.setCells] at h
        exact h
      have HM5 : Hid (MW w (((w3.setCell ⟨b, i * 11 + 8, none⟩ (.string (mt (K + 8)))).setCell ⟨b, i * 11 + 9, none⟩ (.int .i64 ((K : Int) + 1 + 1 + 1 + 1 + 1 + 1 + 1 + 1 + 1))).setCell ⟨b, i * 11 + 10, none⟩ (.int .i64 ((K : Int) + 1 + 1 + 1 + 1 + 1 + 1 + 1 + 1 + 1 + 1))) b T size ((i + 1) * 11) (fl (mkq k))) := by
        show MW _ _ _ _ _ _ _
        rw [show (i + 1) * 11 = i * 11 + 11 by omega]
        exact M5
      clear M5
      go_wp2_with fail
      go_roundw
      case rel => exact ⟨i + 1, by omega, by have := HK.out; rw [← this]; go_num, by go_num, HM5.out⟩
      case measure => simp [intOf]; omega
    · have : i = n := by omega
      subst this
      go_wp2_with fail
      go_ret
      exact ⟨rfl, HM.out⟩
end Go.Proofs.Ytiidepafifodjaa
