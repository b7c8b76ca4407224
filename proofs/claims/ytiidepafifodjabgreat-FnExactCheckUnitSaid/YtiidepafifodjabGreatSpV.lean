import Derived.Test.YtiidepafifodjabGreatSpS
/-! The specification's check of a unit: refs that declare. -/
namespace Go.Proofs.YtiidepafifodjabGreat
open Go.RowKit
attribute [local go_sem] run_store_float
attribute [local go_sem ↓] Go.wp_at_zero Go.wp_at_succ

set_option maxRecDepth 100000 in
set_option maxHeartbeats 4000000 in
theorem l3refsD (L : Nat) (u : UD) (a : Option Addr) (cap : Nat) (f t : Nat) (x : FA) (P D B : Nat) (w0 w : World) (ht : t < (u.fn f).nn) (hT : TS L w0 (u.fn f) x P) (h0 : w0.heap.size ≤ B) (hw : Below w0.heap.size w0 w) (hd : FdOk (u.fn f)) (hR : SeenRow w B (u.fn f) t 0) (hk : ¬ (((u.fn f).nd t).k = 26 ∨ ((u.fn f).nd t).k = 27 ∨ ((u.fn f).nd t).k = 36)) :
    Calls Tryz.prog 81 #[unV u a cap, fnV (u.fn f) x, treeV P D (u.fn f).nn, .int .i64 t, .slice (some ⟨B, 0, none⟩) (u.fn f).vn (u.fn f).vn] w fun e w' => RefsPost u f t B w e w' := by
  have HT : Hid (TS L w0 (u.fn f) x P) := hT
  have HW0 : Hid (Below w0.heap.size w0 w) := hw
  have HD : Hid (FdOk (u.fn f)) := hd
  have HR : Hid (SeenRow w B (u.fn f) t 0) := hR
  have HK : Hid (¬ (((u.fn f).nd t).k = 26 ∨ ((u.fn f).nd t).k = 27 ∨ ((u.fn f).nd t).k = 36)) := hk
  have q27 : (((u.fn f).nd t).k == 27) = false := by simp; omega
  have q36 : (((u.fn f).nd t).k == 36) = false := by simp; omega
  have q26 : (((u.fn f).nd t).k == 26) = false := by simp; omega
  have hvn := HD.out.sm.vn
  have hrn := (HD.out.sm.nd t ht).rn
  have hBw := HR.out.lt
  clear hT hd hR hk hw
  go_enter Tryz.func81, Tryz.ntmps81
  go_upto_region 1 with fail
  obtain ⟨w3, HB, hw3⟩ : ∃ w3, Hid (Below (bx3W w u a cap (u.fn f) x P D).heap.size (bx3W w u a cap (u.fn f) x P D) w3) ∧ bx3W w u a cap (u.fn f) x P D = w3 := ⟨_, Below.refl _ _, rfl⟩
  simp only [bx3W, fnC, treeC] at hw3
  rw [hw3]
  clear hw3
  have HB3 : Hid (Below w.heap.size w w3) := bx3_below HB.out
  have HT3 : Hid (TS L w3 (u.fn f) x P) := HT.out.below (HW0.out.trans (HB3.out.mono HW0.out.size))
  have f6 : w3.cell? ⟨w.heap.size + 1, 6, none⟩ = some (.slice x.na (u.fn f).nn x.nc) := (bx3_fn HB.out).cell 6 rfl
  have hsz : w.heap.size + 1 + 1 < w3.heap.size := (bx3_tree HB.out).lt
  have hsz2 : w.heap.size + 1 < w3.heap.size := by omega
  have hsz3 : w.heap.size < w3.heap.size := by omega
  obtain ⟨b, off, e0, _, hb, d0, d1, d2, d3, d4, d5, d6, d7⟩ := cells8 HT3.out.fn.2.2.1 ht
  rw [e0] at f6
  clear e0
  have HH0 : Hid (Has (w3.alloc (.cells (nodeC ((u.fn f).nd t) (x.nas t)) 70)) w3.heap.size (nodeC ((u.fn f).nd t) (x.nas t))) := Has.new _ _ _
  have HF4 : Hid (Has (w3.alloc (.cells (nodeC ((u.fn f).nd t) (x.nas t)) 70)) (w.heap.size + 1) (fnC (u.fn f) x)) := (bx3_fn HB.out).alloc _
  have HS0 : Hid (SeenRow (w3.alloc (.cells (nodeC ((u.fn f).nd t) (x.nas t)) 70)) B (u.fn f) t 0) := (HR.out.below HB3.out).below (below_alloc _ _)
  have HG0 : Hid (Below B w (w3.alloc (.cells (nodeC ((u.fn f).nd t) (x.nas t)) 70))) := (below_a' HB3.out _).mono (by omega)
  go_wp2_with fail
  clear f6 d0 d1 d2 d3 d4 d5 d6 d7
  go_loopw [58] (fun i wr => ∃ (k : Nat), k ≤ ((u.fn f).nd t).rn ∧ i = .int .i64 k ∧ Hid (∀ j, j < k → InR (((u.fn f).nd t).r j) (u.fn f).vn ∧ ¬ SeenV (u.fn f) t j (((u.fn f).nd t).r j)) ∧ Hid (Below B w wr) ∧ Hid (Has wr w3.heap.size (nodeC ((u.fn f).nd t) (x.nas t))) ∧ Hid (Has wr (w.heap.size + 1) (fnC (u.fn f) x)) ∧ Hid (SeenRow wr B (u.fn f) t k)) (fun i _ => ((u.fn f).nd t).rn - (intOf i).toNat)
  case atStart => exact ⟨0, Nat.zero_le _, rfl, fun j hj => by omega, HG0, HH0, HF4, HS0⟩
  case round =>
    clear HH0 HF4 HS0 HG0
    obtain ⟨k, hkk, rfl, HJ, HG, HH, HF, HS⟩ := hrel
    by_cases hkn : k < ((u.fn f).nd t).rn
    · have HTr : Hid (TS L wr (u.fn f) x P) := HT.out.below (HW0.out.trans (HG.out.mono h0))
      obtain ⟨b2, o2, e2, _, hb2, r0⟩ := cells1 (HTr.out.fn.2.2.2 t ht).1 hkn
      rw [e2]
      clear e2
      have n0 : wr.cell? ⟨w3.heap.size, 0, none⟩ = some (.int .i64 ((u.fn f).nd t).k) := HH.out.cell 0 rfl
      have f4 : wr.cell? ⟨w.heap.size + 1, 4, none⟩ = some (.slice x.va (u.fn f).vn x.vc) := HF.out.cell 4 rfl
      by_cases c1 : ((u.fn f).nd t).r k < 0
      · have he : dB (RefsOk u f t) = false := dB_false fun h => by have := (((refs_okD (HD.out.shf t ht) HK.out).1 h) k hkn).1.1; omega
        have HE : Hid (RefsSays u f t B w wr false) := ⟨he.symm, fun h => Bool.noConfusion h, HG.out⟩
        clear he
        go_wp2_with fail
        go_ret
        exact RefsPost.of HE.out
      by_cases c2 : ((u.fn f).vn : Int) ≤ ((u.fn f).nd t).r k
      · have he : dB (RefsOk u f t) = false := dB_false fun h => by have := (((refs_okD (HD.out.shf t ht) HK.out).1 h) k hkn).1.2; omega
        have HE : Hid (RefsSays u f t B w wr false) := ⟨he.symm, fun h => Bool.noConfusion h, HG.out⟩
        clear he
        go_wp2_with fail
        go_ret
        exact RefsPost.of HE.out
      obtain ⟨y, hy⟩ : ∃ y : Nat, ((u.fn f).nd t).r k = y := ⟨(((u.fn f).nd t).r k).toNat, by omega⟩
      have HY : Hid (((u.fn f).nd t).r k = y) := hy
      have hyv : y < (u.fn f).vn := by omega
      rw [hy] at r0 c1 c2
      clear hy
      have s0 := World.rowIs.cell HS.out (i := y) hyv
      have sz := World.rowIs.frozen HS.out
      have hBr := World.rowIs.lt HS.out
      by_cases c3 : SeenV (u.fn f) t k y
      · have he : dB (RefsOk u f t) = false := dB_false fun h => (((refs_okD (HD.out.shf t ht) HK.out).1 h) k hkn).2 (by rw [HY.out]; exact c3)
        have HE : Hid (RefsSays u f t B w wr false) := ⟨he.symm, fun h => Bool.noConfusion h, HG.out⟩
        rw [dB_true c3] at s0
        clear he c3
        go_wp2_with fail
        go_ret
        exact RefsPost.of HE.out
      · have C3 : Hid (¬ SeenV (u.fn f) t k y) := c3
        have HN : Hid (SeenRow (wr.setCell ⟨B, y, none⟩ (.bool true)) B (u.fn f) t (k + 1)) := SeenRow.set HS.out HY.out
        have HG2 : Hid (Below B w (wr.setCell ⟨B, y, none⟩ (.bool true))) := frS HG.out (Nat.le_refl _) _
        have HH2 : Hid (Has (wr.setCell ⟨B, y, none⟩ (.bool true)) w3.heap.size (nodeC ((u.fn f).nd t) (x.nas t))) := HH.out.far (show B ≠ w3.heap.size by omega) _
        have HF2 : Hid (Has (wr.setCell ⟨B, y, none⟩ (.bool true)) (w.heap.size + 1) (fnC (u.fn f) x)) := HF.out.far (show B ≠ w.heap.size + 1 by omega) _
        rw [dB_false c3] at s0
        clear c3
        go_wp2_with fail
        go_roundw
        case rel => exact ⟨k + 1, by omega, by go_num, fun j hj => by
          by_cases e : j = k
          · subst e; rw [HY.out]; exact ⟨⟨by omega, by omega⟩, C3.out⟩
          · exact HJ.out j (by omega), HG2, HH2, HF2, HN⟩
        case measure => simp [intOf]; omega
    · obtain rfl : k = ((u.fn f).nd t).rn := by omega
      have HE : Hid (RefsSays u f t B w wr true) := ⟨(dB_true ((refs_okD (HD.out.shf t ht) HK.out).2 HJ.out)).symm, fun _ => HS.out.congr fun v => (seen_behind (HD.out.shf t ht) HK.out).symm, HG.out⟩
      go_wp2_with fail
      go_ret
      exact RefsPost.of HE.out

theorem l3refs_calls (L : Nat) (u : UD) (a : Option Addr) (cap : Nat) (f t : Nat) (x : FA) (P D B : Nat) (w0 w : World) (ht : t < (u.fn f).nn) (hT : TS L w0 (u.fn f) x P) (h0 : w0.heap.size ≤ B) (hw : Below w0.heap.size w0 w) (hd : FdOk (u.fn f)) (hun : u.n ≤ 300) (hR : SeenRow w B (u.fn f) t 0) :
    Calls Tryz.prog 81 #[unV u a cap, fnV (u.fn f) x, treeV P D (u.fn f).nn, .int .i64 t, .slice (some ⟨B, 0, none⟩) (u.fn f).vn (u.fn f).vn] w fun e w' => RefsPost u f t B w e w' := by
  have hT2 : TS L w (u.fn f) x P := hT.below hw
  by_cases h1 : ((u.fn f).nd t).k = 27
  · exact l3refs27 L u a cap f t x P D B w ht hT2 hd hR h1
  by_cases h2 : ((u.fn f).nd t).k = 36
  · exact l3refs36 L u a cap f t x P D B w ht hT2 hd hun hR h2
  by_cases h3 : ((u.fn f).nd t).k = 26
  · exact l3refs26 L u a cap f t x P D B w ht hT2 hd hR h3
  exact l3refsD L u a cap f t x P D B w0 w ht hT h0 hw hd hR (by omega)
end Go.Proofs.YtiidepafifodjabGreat

/-! The specification's check of a unit: a fn's head. -/
namespace Go.Proofs.YtiidepafifodjabGreat
open Go.RowKit
attribute [local go_sem] run_store_float
attribute [local go_sem ↓] Go.wp_at_zero Go.wp_at_succ

set_option maxRecDepth 100000 in
set_option maxHeartbeats 4000000 in
theorem l3head0_calls (L : Nat) (u : UD) (a : Option Addr) (cap : Nat) (fas : Nat → FA) (w : World) (hf : 0 < u.n) (hs : u.sm) (hT : FnsAt L w u.n u.fn a fas) :
    Calls Tryz.prog 78 #[unV u a cap, .int .i64 0] w fun e w' => e = .returned (.bool (dB (HeadOk u 0))) ∧ Below w.heap.size w w' := by
  have HT : Hid (FnsAt L w u.n u.fn a fas) := hT
  have HS : Hid u.sm := hs
  clear hT hs
  obtain ⟨b, off, rfl, _, hb, d0, d1, d2, d3, d4, d5, d6⟩ := cells7 HT.out.1 hf
  have hvn := (HS.out.fn 0 hf).vn
  have hun := (HS.out.fn 0 hf).un
  have hnn := (HS.out.fn 0 hf).nn
  have hnm := (HS.out.fn 0 hf).name
  simp only [Nat.zero_mul, Nat.add_zero] at d0 d1 d2 d3 d4 d5 d6
  by_cases c1 : (u.fn 0).nn = 0
  · have he : dB (HeadOk u 0) = false := dB_false (fun h => h.1.1 c1)
    rw [he]
    clear he
    have q1 : (((u.fn 0).nn : Int) == 0) = true := by simp; omega
    clear c1
    go_enter Tryz.func78, Tryz.ntmps78
    go_wp2_with fail
    go_ret
    exact ⟨rfl, by first | exact below_alloc2 _ _ _ | exact below_alloc _ _⟩
  have q1 : (((u.fn 0).nn : Int) == 0) = false := by simp; omega
  have C1 : Hid (¬ (u.fn 0).nn = 0) := c1
  clear c1
  by_cases c2 : 200 < (u.fn 0).vn
  · have he : dB (HeadOk u 0) = false := dB_false (fun h => by have := h.1.2.1; omega)
    rw [he]
    clear he
    go_enter Tryz.func78, Tryz.ntmps78
    go_wp2_with fail
    go_ret
    exact ⟨rfl, by first | exact below_alloc2 _ _ _ | exact below_alloc _ _⟩
  by_cases c3 : 200 < (u.fn 0).un
  · have he : dB (HeadOk u 0) = false := dB_false (fun h => by have := h.1.2.2.1; omega)
    rw [he]
    clear he
    go_enter Tryz.func78, Tryz.ntmps78
    go_wp2_with fail
    go_ret
    exact ⟨rfl, by first | exact below_alloc2 _ _ _ | exact below_alloc _ _⟩
  by_cases c4 : (u.fn 0).params < 0
  · have he : dB (HeadOk u 0) = false := dB_false (fun h => by have := h.1.2.2.2.1; omega)
    rw [he]
    clear he
    go_enter Tryz.func78, Tryz.ntmps78
    go_wp2_with fail
    go_ret
    exact ⟨rfl, by first | exact below_alloc2 _ _ _ | exact below_alloc _ _⟩
  by_cases c5 : ((u.fn 0).vn : Int) < (u.fn 0).params
  · have he : dB (HeadOk u 0) = false := dB_false (fun h => by have := h.1.2.2.2.2; omega)
    rw [he]
    clear he
    go_enter Tryz.func78, Tryz.ntmps78
    go_wp2_with fail
    go_ret
    exact ⟨rfl, by first | exact below_alloc2 _ _ _ | exact below_alloc _ _⟩
  by_cases c6 : (u.fn 0).line < 0
  · have he : dB (HeadOk u 0) = false := dB_false (fun h => by have := h.2.1.1; omega)
    rw [he]
    clear he
    go_enter Tryz.func78, Tryz.ntmps78
    go_wp2_with fail
    go_ret
    exact ⟨rfl, by first | exact below_alloc2 _ _ _ | exact below_alloc _ _⟩
  by_cases c7 : 100000 < (u.fn 0).line
  · have he : dB (HeadOk u 0) = false := dB_false (fun h => by have := h.2.1.2.1; omega)
    rw [he]
    clear he
    go_enter Tryz.func78, Tryz.ntmps78
    go_wp2_with fail
    go_ret
    exact ⟨rfl, by first | exact below_alloc2 _ _ _ | exact below_alloc _ _⟩
  by_cases c8 : 40 < (u.fn 0).name.size
  · have he : dB (HeadOk u 0) = false := dB_false (fun h => by have := h.2.1.2.2.1; omega)
    rw [he]
    clear he
    have hN : nmB (u.fn 0).name 0 = false := by unfold nmB; simp; omega
    go_enter Tryz.func78, Tryz.ntmps78
    go_wp2_with (first | (go_at_call 124; refine (l3name_calls _ _ _).mono ?_; rw [hN]; rintro e w1 ⟨rfl, rfl⟩))
    go_ret
    exact ⟨rfl, by first | exact below_alloc2 _ _ _ | exact below_alloc _ _⟩
  have hN : nmB (u.fn 0).name 0 = true := by unfold nmB; simp; omega
  by_cases c10 : 0 < (u.fn 0).params
  · have he : dB (HeadOk u 0) = false := dB_false (fun h => by have := h.2.1.2.2.2 rfl; omega)
    rw [he]
    clear he
    go_enter Tryz.func78, Tryz.ntmps78
    go_wp2_with (first | (go_at_call 124; refine (l3name_calls _ _ _).mono ?_; rw [hN]; rintro e w1 ⟨rfl, rfl⟩))
    go_ret
    exact ⟨rfl, below_alloc2 _ _ _⟩
  by_cases c11 : 0 < (u.fn 0).un
  · have he : dB (HeadOk u 0) = false := dB_false (fun h => by have := h.2.1.2.2.2 rfl; omega)
    rw [he]
    clear he
    go_enter Tryz.func78, Tryz.ntmps78
    go_wp2_with (first | (go_at_call 124; refine (l3name_calls _ _ _).mono ?_; rw [hN]; rintro e w1 ⟨rfl, rfl⟩))
    go_ret
    exact ⟨rfl, below_alloc2 _ _ _⟩
  have HC : Hid (((u.fn 0).nn ≠ 0 ∧ (u.fn 0).vn ≤ 200 ∧ (u.fn 0).un ≤ 200 ∧ 0 ≤ (u.fn 0).params ∧ (u.fn 0).params ≤ (u.fn 0).vn) ∧ (0 ≤ (u.fn 0).line ∧ (u.fn 0).line ≤ 100000 ∧ (u.fn 0).name.size ≤ 40 ∧ ((0 : Nat) = 0 → (u.fn 0).params = 0 ∧ (u.fn 0).un = 0))) :=
    ⟨⟨C1.out, by omega, by omega, by omega, by omega⟩, by omega, by omega, by omega, fun h => by omega⟩
  go_enter Tryz.func78, Tryz.ntmps78
  go_wp2_with (first | (go_at_call 124; refine (l3name_calls _ _ _).mono ?_; rw [hN]; rintro e w1 ⟨rfl, rfl⟩))
  go_loopw [74] (fun i wr => ∃ (k : Nat), k ≤ (u.fn 0).vn ∧ i = .int .i64 k ∧ Hid (∀ j, j < k → 1 ≤ ((u.fn 0).v j).size ∧ ((u.fn 0).v j).size ≤ 40) ∧ Hid (Below w.heap.size w wr)) (fun i _ => (u.fn 0).vn - (intOf i).toNat)
  case atStart => exact ⟨0, Nat.zero_le _, rfl, fun j hj => by omega, below_alloc2 _ _ _⟩
  case round =>
    obtain ⟨k, hk, rfl, HK, HB⟩ := hrel
    clear d0 d1 d2 d3 d4 d5 d6
    by_cases hkn : k < (u.fn 0).vn
    · obtain ⟨b2, o2, e2, _, hb2, g0⟩ := cells1 ((HT.out.below HB.out).2 0 hf).1 hkn
      rw [e2]
      clear e2
      have hsz := (HS.out.fn 0 hf).v k hkn
      cases hN2 : nmB ((u.fn 0).v k) 1
      · have hbad : ¬ (1 ≤ ((u.fn 0).v k).size ∧ ((u.fn 0).v k).size ≤ 40) := by unfold nmB at hN2; simp at hN2; omega
        have he : dB (HeadOk u 0) = false := dB_false fun h => hbad (h.2.2 k hkn)
        have HE : Hid (dB (HeadOk u 0) = false) := he
        clear he hbad
        go_wp2_with (go_at_call 124; refine (l3name_calls _ _ _).mono ?_; rw [hN2]; rintro e w1 ⟨rfl, rfl⟩)
        go_ret
        exact ⟨ret_bool HE.out.symm, HB.out⟩
      · have hgood : 1 ≤ ((u.fn 0).v k).size ∧ ((u.fn 0).v k).size ≤ 40 := by unfold nmB at hN2; simp at hN2; omega
        have HG : Hid (1 ≤ ((u.fn 0).v k).size ∧ ((u.fn 0).v k).size ≤ 40) := hgood
        clear hgood
        go_wp2_with (go_at_call 124; refine (l3name_calls _ _ _).mono ?_; rw [hN2]; rintro e w1 ⟨rfl, rfl⟩)
        go_roundw
        case rel => exact ⟨k + 1, by omega, by go_num, fun j hj => by
          by_cases e : j = k
          · subst e; exact HG.out
          · exact HK.out j (by omega), HB⟩
        case measure => simp [intOf]; omega
    · have he : dB (HeadOk u 0) = true := dB_true ⟨HC.out.1, ⟨HC.out.2.1, HC.out.2.2.1, HC.out.2.2.2.1, fun _ => HC.out.2.2.2.2 trivial⟩, fun i hi => HK.out i (by omega)⟩
      have HE : Hid (dB (HeadOk u 0) = true) := he
      clear he
      go_wp2_with fail
      go_ret
      exact ⟨ret_bool HE.out.symm, HB.out⟩

end Go.Proofs.YtiidepafifodjabGreat

/-! The specification's check of a unit: a fn's head. -/
namespace Go.Proofs.YtiidepafifodjabGreat
open Go.RowKit
attribute [local go_sem] run_store_float
attribute [local go_sem ↓] Go.wp_at_zero Go.wp_at_succ

set_option maxRecDepth 100000 in
set_option maxHeartbeats 4000000 in
theorem l3headN_calls (L : Nat) (u : UD) (a : Option Addr) (cap : Nat) (fas : Nat → FA) (f : Nat) (w : World) (hf : f < u.n) (h0 : f ≠ 0) (hs : u.sm) (hT : FnsAt L w u.n u.fn a fas) :
    Calls Tryz.prog 78 #[unV u a cap, .int .i64 f] w fun e w' => e = .returned (.bool (dB (HeadOk u f))) ∧ Below w.heap.size w w' := by
  have HT : Hid (FnsAt L w u.n u.fn a fas) := hT
  have HS : Hid u.sm := hs
  clear hT hs
  obtain ⟨b, off, rfl, _, hb, d0, d1, d2, d3, d4, d5, d6⟩ := cells7 HT.out.1 hf
  have hvn := (HS.out.fn f hf).vn
  have hun := (HS.out.fn f hf).un
  have hnn := (HS.out.fn f hf).nn
  have hnm := (HS.out.fn f hf).name
  have q9 : ((f : Int) == 0) = false := by simp; omega
  by_cases c1 : (u.fn f).nn = 0
  · have he : dB (HeadOk u f) = false := dB_false (fun h => h.1.1 c1)
    rw [he]
    clear he
    have q1 : (((u.fn f).nn : Int) == 0) = true := by simp; omega
    clear c1
    go_enter Tryz.func78, Tryz.ntmps78
    go_wp2_with fail
    go_ret
    exact ⟨rfl, by first | exact below_alloc2 _ _ _ | exact below_alloc _ _⟩
  have q1 : (((u.fn f).nn : Int) == 0) = false := by simp; omega
  have C1 : Hid (¬ (u.fn f).nn = 0) := c1
  clear c1
  by_cases c2 : 200 < (u.fn f).vn
  · have he : dB (HeadOk u f) = false := dB_false (fun h => by have := h.1.2.1; omega)
    rw [he]
    clear he
    go_enter Tryz.func78, Tryz.ntmps78
    go_wp2_with fail
    go_ret
    exact ⟨rfl, by first | exact below_alloc2 _ _ _ | exact below_alloc _ _⟩
  by_cases c3 : 200 < (u.fn f).un
  · have he : dB (HeadOk u f) = false := dB_false (fun h => by have := h.1.2.2.1; omega)
    rw [he]
    clear he
    go_enter Tryz.func78, Tryz.ntmps78
    go_wp2_with fail
    go_ret
    exact ⟨rfl, by first | exact below_alloc2 _ _ _ | exact below_alloc _ _⟩
  by_cases c4 : (u.fn f).params < 0
  · have he : dB (HeadOk u f) = false := dB_false (fun h => by have := h.1.2.2.2.1; omega)
    rw [he]
    clear he
    go_enter Tryz.func78, Tryz.ntmps78
    go_wp2_with fail
    go_ret
    exact ⟨rfl, by first | exact below_alloc2 _ _ _ | exact below_alloc _ _⟩
  by_cases c5 : ((u.fn f).vn : Int) < (u.fn f).params
  · have he : dB (HeadOk u f) = false := dB_false (fun h => by have := h.1.2.2.2.2; omega)
    rw [he]
    clear he
    go_enter Tryz.func78, Tryz.ntmps78
    go_wp2_with fail
    go_ret
    exact ⟨rfl, by first | exact below_alloc2 _ _ _ | exact below_alloc _ _⟩
  by_cases c6 : (u.fn f).line < 0
  · have he : dB (HeadOk u f) = false := dB_false (fun h => by have := h.2.1.1; omega)
    rw [he]
    clear he
    go_enter Tryz.func78, Tryz.ntmps78
    go_wp2_with fail
    go_ret
    exact ⟨rfl, by first | exact below_alloc2 _ _ _ | exact below_alloc _ _⟩
  by_cases c7 : 100000 < (u.fn f).line
  · have he : dB (HeadOk u f) = false := dB_false (fun h => by have := h.2.1.2.1; omega)
    rw [he]
    clear he
    go_enter Tryz.func78, Tryz.ntmps78
    go_wp2_with fail
    go_ret
    exact ⟨rfl, by first | exact below_alloc2 _ _ _ | exact below_alloc _ _⟩
  by_cases c8 : 40 < (u.fn f).name.size
  · have he : dB (HeadOk u f) = false := dB_false (fun h => by have := h.2.1.2.2.1; omega)
    rw [he]
    clear he
    have hN : nmB (u.fn f).name 0 = false := by unfold nmB; simp; omega
    go_enter Tryz.func78, Tryz.ntmps78
    go_wp2_with (first | (go_at_call 124; refine (l3name_calls _ _ _).mono ?_; rw [hN]; rintro e w1 ⟨rfl, rfl⟩))
    go_ret
    exact ⟨rfl, by first | exact below_alloc2 _ _ _ | exact below_alloc _ _⟩
  have hN : nmB (u.fn f).name 0 = true := by unfold nmB; simp; omega
  have HC : Hid (((u.fn f).nn ≠ 0 ∧ (u.fn f).vn ≤ 200 ∧ (u.fn f).un ≤ 200 ∧ 0 ≤ (u.fn f).params ∧ (u.fn f).params ≤ (u.fn f).vn) ∧ (0 ≤ (u.fn f).line ∧ (u.fn f).line ≤ 100000 ∧ (u.fn f).name.size ≤ 40 ∧ (f = 0 → (u.fn f).params = 0 ∧ (u.fn f).un = 0))) :=
    ⟨⟨C1.out, by omega, by omega, by omega, by omega⟩, by omega, by omega, by omega, fun h => by omega⟩
  go_enter Tryz.func78, Tryz.ntmps78
  go_wp2_with (first | (go_at_call 124; refine (l3name_calls _ _ _).mono ?_; rw [hN]; rintro e w1 ⟨rfl, rfl⟩))
  go_loopw [74] (fun i wr => ∃ (k : Nat), k ≤ (u.fn f).vn ∧ i = .int .i64 k ∧ Hid (∀ j, j < k → 1 ≤ ((u.fn f).v j).size ∧ ((u.fn f).v j).size ≤ 40) ∧ Hid (Below w.heap.size w wr)) (fun i _ => (u.fn f).vn - (intOf i).toNat)
  case atStart => exact ⟨0, Nat.zero_le _, rfl, fun j hj => by omega, below_alloc2 _ _ _⟩
  case round =>
    obtain ⟨k, hk, rfl, HK, HB⟩ := hrel
    clear d0 d1 d2 d3 d4 d5 d6
    by_cases hkn : k < (u.fn f).vn
    · obtain ⟨b2, o2, e2, _, hb2, g0⟩ := cells1 ((HT.out.below HB.out).2 f hf).1 hkn
      rw [e2]
      clear e2
      have hsz := (HS.out.fn f hf).v k hkn
      cases hN2 : nmB ((u.fn f).v k) 1
      · have hbad : ¬ (1 ≤ ((u.fn f).v k).size ∧ ((u.fn f).v k).size ≤ 40) := by unfold nmB at hN2; simp at hN2; omega
        have he : dB (HeadOk u f) = false := dB_false fun h => hbad (h.2.2 k hkn)
        have HE : Hid (dB (HeadOk u f) = false) := he
        clear he hbad
        go_wp2_with (go_at_call 124; refine (l3name_calls _ _ _).mono ?_; rw [hN2]; rintro e w1 ⟨rfl, rfl⟩)
        go_ret
        exact ⟨ret_bool HE.out.symm, HB.out⟩
      · have hgood : 1 ≤ ((u.fn f).v k).size ∧ ((u.fn f).v k).size ≤ 40 := by unfold nmB at hN2; simp at hN2; omega
        have HG : Hid (1 ≤ ((u.fn f).v k).size ∧ ((u.fn f).v k).size ≤ 40) := hgood
        clear hgood
        go_wp2_with (go_at_call 124; refine (l3name_calls _ _ _).mono ?_; rw [hN2]; rintro e w1 ⟨rfl, rfl⟩)
        go_roundw
        case rel => exact ⟨k + 1, by omega, by go_num, fun j hj => by
          by_cases e : j = k
          · subst e; exact HG.out
          · exact HK.out j (by omega), HB⟩
        case measure => simp [intOf]; omega
    · have he : dB (HeadOk u f) = true := dB_true ⟨HC.out.1, HC.out.2, fun i hi => HK.out i (by omega)⟩
      have HE : Hid (dB (HeadOk u f) = true) := he
      clear he
      go_wp2_with fail
      go_ret
      exact ⟨ret_bool HE.out.symm, HB.out⟩

end Go.Proofs.YtiidepafifodjabGreat
