import Derived.Test.YtcpjnddkibbddaaGreatSpQ
import Derived.Test.YtcpjnddkibbddaaGreatUnD
/-! The specification's check of a unit: a fn's head. -/
namespace Go.Proofs.YtcpjnddkibbddaaGreat
open Go.RowKit
attribute [local go_sem] run_store_float
attribute [local go_sem ↓] Go.wp_at_zero Go.wp_at_succ

set_option maxRecDepth 100000 in
set_option maxHeartbeats 4000000 in
theorem l3head0_calls (L : Nat) (u : UD) (a : Option Addr) (cap : Nat) (fas : Nat → FA) (w : World) (hf : 0 < u.n) (hs : u.sm) (hT : FnsAt L w u.n u.fn a fas) :
    Calls Tryz.prog 46 #[unV u a cap, .int .i64 0] w fun e w' => e = .returned (.bool (dB (HeadOk u 0))) ∧ Below w.heap.size w w' := by
  have HT : Hid (FnsAt L w u.n u.fn a fas) := hT
  have HS : Hid u.sm := hs
  clear hT hs
  obtain ⟨b, off, rfl, _, hb, d0, d1, d2, d3, d4, d5, d6⟩ := cells7 HT.out.1 hf
  have hvn := (HS.out.fn 0 hf).vn
  have hun := (HS.out.fn 0 hf).un
  have hnn := (HS.out.fn 0 hf).nn
  have hnm := (HS.out.fn 0 hf).name
  simp only [Nat.zero_mul, Nat.add_zero] at d0 d1 d2 d3 d4 d5 d6
  by_cases c1 : (u.fn 0).nn = 0
  · have he : dB (HeadOk u 0) = false := dB_false (fun h => h.1.1 c1)
    rw [he]
    clear he
    have q1 : (((u.fn 0).nn : Int) == 0) = true := by simp; omega
    clear c1
    go_enter Tryz.func46, Tryz.ntmps46
    go_wp2_with fail
    go_ret
    exact ⟨rfl, by first | exact below_alloc2 _ _ _ | exact below_alloc _ _⟩
  have q1 : (((u.fn 0).nn : Int) == 0) = false := by simp; omega
  have C1 : Hid (¬ (u.fn 0).nn = 0) := c1
  clear c1
  by_cases c2 : 200 < (u.fn 0).vn
  · have he : dB (HeadOk u 0) = false := dB_false (fun h => by have := h.1.2.1; omega)
    rw [he]
    clear he
    go_enter Tryz.func46, Tryz.ntmps46
    go_wp2_with fail
    go_ret
    exact ⟨rfl, by first | exact below_alloc2 _ _ _ | exact below_alloc _ _⟩
  by_cases c3 : 200 < (u.fn 0).un
  · have he : dB (HeadOk u 0) = false := dB_false (fun h => by have := h.1.2.2.1; omega)
    rw [he]
    clear he
    go_enter Tryz.func46, Tryz.ntmps46
    go_wp2_with fail
    go_ret
    exact ⟨rfl, by first | exact below_alloc2 _ _ _ | exact below_alloc _ _⟩
  by_cases c4 : (u.fn 0).params < 0
  · have he : dB (HeadOk u 0) = false := dB_false (fun h => by have := h.1.2.2.2.1; omega)
    rw [he]
    clear he
    go_enter Tryz.func46, Tryz.ntmps46
    go_wp2_with fail
    go_ret
    exact ⟨rfl, by first | exact below_alloc2 _ _ _ | exact below_alloc _ _⟩
  by_cases c5 : ((u.fn 0).vn : Int) < (u.fn 0).params
  · have he : dB (HeadOk u 0) = false := dB_false (fun h => by have := h.1.2.2.2.2; omega)
    rw [he]
    clear he
    go_enter Tryz.func46, Tryz.ntmps46
    go_wp2_with fail
    go_ret
    exact ⟨rfl, by first | exact below_alloc2 _ _ _ | exact below_alloc _ _⟩
  by_cases c6 : (u.fn 0).line < 0
  · have he : dB (HeadOk u 0) = false := dB_false (fun h => by have := h.2.1.1; omega)
    rw [he]
    clear he
    go_enter Tryz.func46, Tryz.ntmps46
    go_wp2_with fail
    go_ret
    exact ⟨rfl, by first | exact below_alloc2 _ _ _ | exact below_alloc _ _⟩
  by_cases c7 : 100000 < (u.fn 0).line
  · have he : dB (HeadOk u 0) = false := dB_false (fun h => by have := h.2.1.2.1; omega)
    rw [he]
    clear he
    go_enter Tryz.func46, Tryz.ntmps46
    go_wp2_with fail
    go_ret
    exact ⟨rfl, by first | exact below_alloc2 _ _ _ | exact below_alloc _ _⟩
  by_cases c8 : 40 < (u.fn 0).name.size
  · have he : dB (HeadOk u 0) = false := dB_false (fun h => by have := h.2.1.2.2.1; omega)
    rw [he]
    clear he
    have hN : nmB (u.fn 0).name 0 = false := by unfold nmB; simp; omega
    go_enter Tryz.func46, Tryz.ntmps46
    go_wp2_with (first | (go_at_call 80; refine (l3name_calls _ _ _).mono ?_; rw [hN]; rintro e w1 ⟨rfl, rfl⟩))
    go_ret
    exact ⟨rfl, by first | exact below_alloc2 _ _ _ | exact below_alloc _ _⟩
  have hN : nmB (u.fn 0).name 0 = true := by unfold nmB; simp; omega
  by_cases c10 : 0 < (u.fn 0).params
  · have he : dB (HeadOk u 0) = false := dB_false (fun h => by have := h.2.1.2.2.2 rfl; omega)
    rw [he]
    clear he
    go_enter Tryz.func46, Tryz.ntmps46
    go_wp2_with (first | (go_at_call 80; refine (l3name_calls _ _ _).mono ?_; rw [hN]; rintro e w1 ⟨rfl, rfl⟩))
    go_ret
    exact ⟨rfl, below_alloc2 _ _ _⟩
  by_cases c11 : 0 < (u.fn 0).un
  · have he : dB (HeadOk u 0) = false := dB_false (fun h => by have := h.2.1.2.2.2 rfl; omega)
    rw [he]
    clear he
    go_enter Tryz.func46, Tryz.ntmps46
    go_wp2_with (first | (go_at_call 80; refine (l3name_calls _ _ _).mono ?_; rw [hN]; rintro e w1 ⟨rfl, rfl⟩))
    go_ret
    exact ⟨rfl, below_alloc2 _ _ _⟩
  have HC : Hid (((u.fn 0).nn ≠ 0 ∧ (u.fn 0).vn ≤ 200 ∧ (u.fn 0).un ≤ 200 ∧ 0 ≤ (u.fn 0).params ∧ (u.fn 0).params ≤ (u.fn 0).vn) ∧ (0 ≤ (u.fn 0).line ∧ (u.fn 0).line ≤ 100000 ∧ (u.fn 0).name.size ≤ 40 ∧ ((0 : Nat) = 0 → (u.fn 0).params = 0 ∧ (u.fn 0).un = 0))) :=
    ⟨⟨C1.out, by omega, by omega, by omega, by omega⟩, by omega, by omega, by omega, fun h => by omega⟩
  go_enter Tryz.func46, Tryz.ntmps46
  go_wp2_with (first | (go_at_call 80; refine (l3name_calls _ _ _).mono ?_; rw [hN]; rintro e w1 ⟨rfl, rfl⟩))
  go_loopw [74] (fun i wr => ∃ (k : Nat), k ≤ (u.fn 0).vn ∧ i = .int .i64 k ∧ Hid (∀ j, j < k → 1 ≤ ((u.fn 0).v j).size ∧ ((u.fn 0).v j).size ≤ 40) ∧ Hid (Below w.heap.size w wr)) (fun i _ => (u.fn 0).vn - (intOf i).toNat)
  case atStart => exact ⟨0, Nat.zero_le _, rfl, fun j hj => by omega, below_alloc2 _ _ _⟩
  case round =>
    obtain ⟨k, hk, rfl, HK, HB⟩ := hrel
    clear d0 d1 d2 d3 d4 d5 d6
    by_cases hkn : k < (u.fn 0).vn
    · obtain ⟨b2, o2, e2, _, hb2, g0⟩ := cells1 ((HT.out.below HB.out).2 0 hf).1 hkn
      rw [e2]
      clear e2
      have hsz := (HS.out.fn 0 hf).v k hkn
      cases hN2 : nmB ((u.fn 0).v k) 1
      · have hbad : ¬ (1 ≤ ((u.fn 0).v k).size ∧ ((u.fn 0).v k).size ≤ 40) := by unfold nmB at hN2; simp at hN2; omega
        have he : dB (HeadOk u 0) = false := dB_false fun h => hbad (h.2.2 k hkn)
        have HE : Hid (dB (HeadOk u 0) = false) := he
        clear he hbad
        go_wp2_with (go_at_call 80; refine (l3name_calls _ _ _).mono ?_; rw [hN2]; rintro e w1 ⟨rfl, rfl⟩)
        go_ret
        exact ⟨ret_bool HE.out.symm, HB.out⟩
      · have hgood : 1 ≤ ((u.fn 0).v k).size ∧ ((u.fn 0).v k).size ≤ 40 := by unfold nmB at hN2; simp at hN2; omega
        have HG : Hid (1 ≤ ((u.fn 0).v k).size ∧ ((u.fn 0).v k).size ≤ 40) := hgood
        clear hgood
        go_wp2_with (go_at_call 80; refine (l3name_calls _ _ _).mono ?_; rw [hN2]; rintro e w1 ⟨rfl, rfl⟩)
        go_roundw
        case rel => exact ⟨k + 1, by omega, by go_num, fun j hj => by
          by_cases e : j = k
          · subst e; exact HG.out
          · exact HK.out j (by omega), HB⟩
        case measure => simp [intOf]; omega
    · have he : dB (HeadOk u 0) = true := dB_true ⟨HC.out.1, ⟨HC.out.2.1, HC.out.2.2.1, HC.out.2.2.2.1, fun _ => HC.out.2.2.2.2 trivial⟩, fun i hi => HK.out i (by omega)⟩
      have HE : Hid (dB (HeadOk u 0) = true) := he
      clear he
      go_wp2_with fail
      go_ret
      exact ⟨ret_bool HE.out.symm, HB.out⟩

end Go.Proofs.YtcpjnddkibbddaaGreat

/-! The specification's check of a unit: a fn's head. -/
namespace Go.Proofs.YtcpjnddkibbddaaGreat
open Go.RowKit
attribute [local go_sem] run_store_float
attribute [local go_sem ↓] Go.wp_at_zero Go.wp_at_succ

set_option maxRecDepth 100000 in
set_option maxHeartbeats 4000000 in
theorem l3headN_calls (L : Nat) (u : UD) (a : Option Addr) (cap : Nat) (fas : Nat → FA) (f : Nat) (w : World) (hf : f < u.n) (h0 : f ≠ 0) (hs : u.sm) (hT : FnsAt L w u.n u.fn a fas) :
    Calls Tryz.prog 46 #[unV u a cap, .int .i64 f] w fun e w' => e = .returned (.bool (dB (HeadOk u f))) ∧ Below w.heap.size w w' := by
  have HT : Hid (FnsAt L w u.n u.fn a fas) := hT
  have HS : Hid u.sm := hs
  clear hT hs
  obtain ⟨b, off, rfl, _, hb, d0, d1, d2, d3, d4, d5, d6⟩ := cells7 HT.out.1 hf
  have hvn := (HS.out.fn f hf).vn
  have hun := (HS.out.fn f hf).un
  have hnn := (HS.out.fn f hf).nn
  have hnm := (HS.out.fn f hf).name
  have q9 : ((f : Int) == 0) = false := by simp; omega
  by_cases c1 : (u.fn f).nn = 0
  · have he : dB (HeadOk u f) = false := dB_false (fun h => h.1.1 c1)
    rw [he]
    clear he
    have q1 : (((u.fn f).nn : Int) == 0) = true := by simp; omega
    clear c1
    go_enter Tryz.func46, Tryz.ntmps46
    go_wp2_with fail
    go_ret
    exact ⟨rfl, by first | exact below_alloc2 _ _ _ | exact below_alloc _ _⟩
  have q1 : (((u.fn f).nn : Int) == 0) = false := by simp; omega
  have C1 : Hid (¬ (u.fn f).nn = 0) := c1
  clear c1
  by_cases c2 : 200 < (u.fn f).vn
  · have he : dB (HeadOk u f) = false := dB_false (fun h => by have := h.1.2.1; omega)
    rw [he]
    clear he
    go_enter Tryz.func46, Tryz.ntmps46
    go_wp2_with fail
    go_ret
    exact ⟨rfl, by first | exact below_alloc2 _ _ _ | exact below_alloc _ _⟩
  by_cases c3 : 200 < (u.fn f).un
  · have he : dB (HeadOk u f) = false := dB_false (fun h => by have := h.1.2.2.1; omega)
    rw [he]
    clear he
    go_enter Tryz.func46, Tryz.ntmps46
    go_wp2_with fail
    go_ret
    exact ⟨rfl, by first | exact below_alloc2 _ _ _ | exact below_alloc _ _⟩
  by_cases c4 : (u.fn f).params < 0
  · have he : dB (HeadOk u f) = false := dB_false (fun h => by have := h.1.2.2.2.1; omega)
    rw [he]
    clear he
    go_enter Tryz.func46, Tryz.ntmps46
    go_wp2_with fail
    go_ret
    exact ⟨rfl, by first | exact below_alloc2 _ _ _ | exact below_alloc _ _⟩
  by_cases c5 : ((u.fn f).vn : Int) < (u.fn f).params
  · have he : dB (HeadOk u f) = false := dB_false (fun h => by have := h.1.2.2.2.2; omega)
    rw [he]
    clear he
    go_enter Tryz.func46, Tryz.ntmps46
    go_wp2_with fail
    go_ret
    exact ⟨rfl, by first | exact below_alloc2 _ _ _ | exact below_alloc _ _⟩
  by_cases c6 : (u.fn f).line < 0
  · have he : dB (HeadOk u f) = false := dB_false (fun h => by have := h.2.1.1; omega)
    rw [he]
    clear he
    go_enter Tryz.func46, Tryz.ntmps46
    go_wp2_with fail
    go_ret
    exact ⟨rfl, by first | exact below_alloc2 _ _ _ | exact below_alloc _ _⟩
  by_cases c7 : 100000 < (u.fn f).line
  · have he : dB (HeadOk u f) = false := dB_false (fun h => by have := h.2.1.2.1; omega)
    rw [he]
    clear he
    go_enter Tryz.func46, Tryz.ntmps46
    go_wp2_with fail
    go_ret
    exact ⟨rfl, by first | exact below_alloc2 _ _ _ | exact below_alloc _ _⟩
  by_cases c8 : 40 < (u.fn f).name.size
  · have he : dB (HeadOk u f) = false := dB_false (fun h => by have := h.2.1.2.2.1; omega)
    rw [he]
    clear he
    have hN : nmB (u.fn f).name 0 = false := by unfold nmB; simp; omega
    go_enter Tryz.func46, Tryz.ntmps46
    go_wp2_with (first | (go_at_call 80; refine (l3name_calls _ _ _).mono ?_; rw [hN]; rintro e w1 ⟨rfl, rfl⟩))
    go_ret
    exact ⟨rfl, by first | exact below_alloc2 _ _ _ | exact below_alloc _ _⟩
  have hN : nmB (u.fn f).name 0 = true := by unfold nmB; simp; omega
  have HC : Hid (((u.fn f).nn ≠ 0 ∧ (u.fn f).vn ≤ 200 ∧ (u.fn f).un ≤ 200 ∧ 0 ≤ (u.fn f).params ∧ (u.fn f).params ≤ (u.fn f).vn) ∧ (0 ≤ (u.fn f).line ∧ (u.fn f).line ≤ 100000 ∧ (u.fn f).name.size ≤ 40 ∧ (f = 0 → (u.fn f).params = 0 ∧ (u.fn f).un = 0))) :=
    ⟨⟨C1.out, by omega, by omega, by omega, by omega⟩, by omega, by omega, by omega, fun h => by omega⟩
  go_enter Tryz.func46, Tryz.ntmps46
  go_wp2_with (first | (go_at_call 80; refine (l3name_calls _ _ _).mono ?_; rw [hN]; rintro e w1 ⟨rfl, rfl⟩))
  go_loopw [74] (fun i wr => ∃ (k : Nat), k ≤ (u.fn f).vn ∧ i = .int .i64 k ∧ Hid (∀ j, j < k → 1 ≤ ((u.fn f).v j).size ∧ ((u.fn f).v j).size ≤ 40) ∧ Hid (Below w.heap.size w wr)) (fun i _ => (u.fn f).vn - (intOf i).toNat)
  case atStart => exact ⟨0, Nat.zero_le _, rfl, fun j hj => by omega, below_alloc2 _ _ _⟩
  case round =>
    obtain ⟨k, hk, rfl, HK, HB⟩ := hrel
    clear d0 d1 d2 d3 d4 d5 d6
    by_cases hkn : k < (u.fn f).vn
    · obtain ⟨b2, o2, e2, _, hb2, g0⟩ := cells1 ((HT.out.below HB.out).2 f hf).1 hkn
      rw [e2]
      clear e2
      have hsz := (HS.out.fn f hf).v k hkn
      cases hN2 : nmB ((u.fn f).v k) 1
      · have hbad : ¬ (1 ≤ ((u.fn f).v k).size ∧ ((u.fn f).v k).size ≤ 40) := by unfold nmB at hN2; simp at hN2; omega
        have he : dB (HeadOk u f) = false := dB_false fun h => hbad (h.2.2 k hkn)
        have HE : Hid (dB (HeadOk u f) = false) := he
        clear he hbad
        go_wp2_with (go_at_call 80; refine (l3name_calls _ _ _).mono ?_; rw [hN2]; rintro e w1 ⟨rfl, rfl⟩)
        go_ret
        exact ⟨ret_bool HE.out.symm, HB.out⟩
      · have hgood : 1 ≤ ((u.fn f).v k).size ∧ ((u.fn f).v k).size ≤ 40 := by unfold nmB at hN2; simp at hN2; omega
        have HG : Hid (1 ≤ ((u.fn f).v k).size ∧ ((u.fn f).v k).size ≤ 40) := hgood
        clear hgood
        go_wp2_with (go_at_call 80; refine (l3name_calls _ _ _).mono ?_; rw [hN2]; rintro e w1 ⟨rfl, rfl⟩)
        go_roundw
        case rel => exact ⟨k + 1, by omega, by go_num, fun j hj => by
          by_cases e : j = k
          · subst e; exact HG.out
          · exact HK.out j (by omega), HB⟩
        case measure => simp [intOf]; omega
    · have he : dB (HeadOk u f) = true := dB_true ⟨HC.out.1, HC.out.2, fun i hi => HK.out i (by omega)⟩
      have HE : Hid (dB (HeadOk u f) = true) := he
      clear he
      go_wp2_with fail
      go_ret
      exact ⟨ret_bool HE.out.symm, HB.out⟩

end Go.Proofs.YtcpjnddkibbddaaGreat

/-! Units copied by the laws: lists of ints, strings, ups. -/
namespace Go.Proofs.YtcpjnddkibbddaaGreat
open Go.RowKit
attribute [local go_sem] run_store_float

theorem infoInt : (Tryz.prog.info? 3).map (fun i => (i.zero, i.size, i.bytes)) = some (some (.int .i64 0), 1, 8) := by kernel_rfl
theorem make_ints (n : Nat) (hn : n ≤ 1048576) (w : World) : ∃ c : Array Value, c.size = n * 1 ∧ (Instr.makeSlice 26 (.int .i64 (n : Int)) (.int .i64 (n : Int))).run Tryz.prog w = .ok (.slice (some ⟨w.heap.size, 0, none⟩) n n) (w.alloc (.cells c 3)) := by
  obtain ⟨i, hi, hzz⟩ := Option.map_eq_some_iff.1 infoInt
  simp only [Prod.mk.injEq] at hzz
  obtain ⟨hz, hs, hb⟩ := hzz
  have hr := run_make (P := Tryz.prog) (w := w) 26 3 i _ Tryz.underlying26 hi hz .i64 .i64 n n (by omega) (Int.le_refl _) (by rw [hb]; omega) (by omega)
  simp only [Int.toNat_natCast, hs] at hr
  exact ⟨_, size_madeCells _ _, hr⟩
theorem infoString : (Tryz.prog.info? 9).map (fun i => (i.zero, i.size, i.bytes)) = some (some (.string ⟨#[]⟩), 1, 16) := by kernel_rfl
theorem make_strings (n : Nat) (hn : n ≤ 1048576) (w : World) : ∃ c : Array Value, c.size = n * 1 ∧ (Instr.makeSlice 41 (.int .i64 (n : Int)) (.int .i64 (n : Int))).run Tryz.prog w = .ok (.slice (some ⟨w.heap.size, 0, none⟩) n n) (w.alloc (.cells c 9)) := by
  obtain ⟨i, hi, hzz⟩ := Option.map_eq_some_iff.1 infoString
  simp only [Prod.mk.injEq] at hzz
  obtain ⟨hz, hs, hb⟩ := hzz
  have hr := run_make (P := Tryz.prog) (w := w) 41 9 i _ Tryz.underlying41 hi hz .i64 .i64 n n (by omega) (Int.le_refl _) (by rw [hb]; omega) (by omega)
  simp only [Int.toNat_natCast, hs] at hr
  exact ⟨_, size_madeCells _ _, hr⟩
theorem infoUp : (Tryz.prog.info? 114).map (fun i => (i.zero, i.size, i.bytes)) = some (some (.agg #[.bool false, .int .i64 0]), 2, 16) := by kernel_rfl
theorem make_ups (n : Nat) (hn : n ≤ 1048576) (w : World) : ∃ c : Array Value, c.size = n * 2 ∧ (Instr.makeSlice 42 (.int .i64 (n : Int)) (.int .i64 (n : Int))).run Tryz.prog w = .ok (.slice (some ⟨w.heap.size, 0, none⟩) n n) (w.alloc (.cells c 114)) := by
  obtain ⟨i, hi, hzz⟩ := Option.map_eq_some_iff.1 infoUp
  simp only [Prod.mk.injEq] at hzz
  obtain ⟨hz, hs, hb⟩ := hzz
  have hr := run_make (P := Tryz.prog) (w := w) 42 114 i _ Tryz.underlying42 hi hz .i64 .i64 n n (by omega) (Int.le_refl _) (by rw [hb]; omega) (by omega)
  simp only [Int.toNat_natCast, hs] at hr
  exact ⟨_, size_madeCells _ _, hr⟩

set_option maxRecDepth 100000 in
set_option maxHeartbeats 4000000 in
theorem toIntS_calls (L : Nat) (a : Option Addr) (n cap : Nat) (r : Nat → Int) (w : World) (hn : n ≤ 1048576) (hT : IntsAt L w a n r) :
    Calls Tryz.prog 144 #[.slice a n cap] w fun e w' => (∃ B, e = .returned (.slice (some ⟨B, 0, none⟩) n n) ∧ w.heap.size ≤ B ∧ IntsAt B w' (some ⟨B, 0, none⟩) n r) ∧ Below w.heap.size w w' := by
  have HT : Hid (RowN 1 L w a n fun i => #[.int .i64 (r i)]) := hT
  clear hT
  obtain ⟨c, hcs, hmk⟩ := make_ints n hn w
  have hR0 := rowOfC w c 3
  rw [hcs] at hR0
  have hB0 := below_alloc w (.cells c 3)
  go_enter Tryz.func144, Tryz.ntmps144
  go_wp2_with fail
  clear hmk
  go_loopw [4] (fun i wr => ∃ (k : Nat) (f : Nat → Value), k ≤ n ∧ i = .int .i64 k ∧ wr.rowIs w.heap.size 3 (n * 1) f ∧ (∀ m, m < k * 1 → f m = flK 1 (fun i => #[.int .i64 (r i)]) m) ∧ Below w.heap.size w wr) (fun i _ => n - (intOf i).toNat)
  case atStart => exact ⟨0, _, Nat.zero_le _, rfl, hR0, fun m hm => by omega, hB0⟩
  case round =>
    clear hR0 hB0 hcs
    obtain ⟨k, f, hk, rfl, hR, hf, hB⟩ := hrel
    by_cases hkn : k < n
    · obtain ⟨b, off, rfl, _, hb, d0⟩ := cells1 (HT.out.below hB) hkn
      have g0 := hR.cell (i := k) (by omega)
      have z := hR.frozen
      obtain ⟨f', hR3, hf'⟩ := put1 hR k _ hf (.int .i64 (r k)) _ (fun _ _ => rfl) rfl
      have HR : Hid _ := hR3
      have HF : Hid _ := hf'
      clear hR hR3 hf hf'
      go_wp2_with fail
      go_roundw
      case rel => exact ⟨k + 1, f', by omega, by go_num, HR.out, HF.out, fr1 k _ hB⟩
      case measure => simp [intOf]; omega
    · go_wp2_with fail
      have : k = n := by omega
      subst this
      go_ret
      exact ⟨⟨_, rfl, Nat.le_refl _, rowK (fun _ _ => rfl) (hR.congr hf)⟩, hB⟩

set_option maxRecDepth 100000 in
set_option maxHeartbeats 4000000 in
theorem toStringS_calls (L : Nat) (a : Option Addr) (n cap : Nat) (q : Nat → ByteArray) (w : World) (hn : n ≤ 1048576) (hT : RowN 1 L w a n fun i => #[.string (q i)]) :
    Calls Tryz.prog 52 #[.slice a n cap] w fun e w' => (∃ B, e = .returned (.slice (some ⟨B, 0, none⟩) n n) ∧ w.heap.size ≤ B ∧ RowN 1 B w' (some ⟨B, 0, none⟩) n fun i => #[.string (q i)]) ∧ Below w.heap.size w w' := by
  have HT : Hid (RowN 1 L w a n fun i => #[.string (q i)]) := hT
  clear hT
  obtain ⟨c, hcs, hmk⟩ := make_strings n hn w
  have hR0 := rowOfC w c 9
  rw [hcs] at hR0
  have hB0 := below_alloc w (.cells c 9)
  go_enter Tryz.func52, Tryz.ntmps52
  go_wp2_with fail
  clear hmk
  go_loopw [4] (fun i wr => ∃ (k : Nat) (f : Nat → Value), k ≤ n ∧ i = .int .i64 k ∧ wr.rowIs w.heap.size 9 (n * 1) f ∧ (∀ m, m < k * 1 → f m = flK 1 (fun i => #[.string (q i)]) m) ∧ Below w.heap.size w wr) (fun i _ => n - (intOf i).toNat)
  case atStart => exact ⟨0, _, Nat.zero_le _, rfl, hR0, fun m hm => by omega, hB0⟩
  case round =>
    clear hR0 hB0 hcs
    obtain ⟨k, f, hk, rfl, hR, hf, hB⟩ := hrel
    by_cases hkn : k < n
    · obtain ⟨b, off, rfl, _, hb, d0⟩ := cells1 (HT.out.below hB) hkn
      have g0 := hR.cell (i := k) (by omega)
      have z := hR.frozen
      obtain ⟨f', hR3, hf'⟩ := put1 hR k _ hf (.string (q k)) _ (fun _ _ => rfl) rfl
      have HR : Hid _ := hR3
      have HF : Hid _ := hf'
      clear hR hR3 hf hf'
      go_wp2_with fail
      go_roundw
      case rel => exact ⟨k + 1, f', by omega, by go_num, HR.out, HF.out, fr1 k _ hB⟩
      case measure => simp [intOf]; omega
    · go_wp2_with fail
      have : k = n := by omega
      subst this
      go_ret
      exact ⟨⟨_, rfl, Nat.le_refl _, rowK (fun _ _ => rfl) (hR.congr hf)⟩, hB⟩

set_option maxRecDepth 100000 in
set_option maxHeartbeats 4000000 in
theorem toUp_calls (d : UPD) (w : World) : Calls Tryz.prog 84 #[upV d] w fun e w' => e = .returned (upV d) ∧ Below w.heap.size w w' := by
  go_enter Tryz.func84, Tryz.ntmps84
  go_wp2_with fail
  exact bodyPost_ret (v := upV d) (by simp [results, Tryz.results84, go_sem]) rfl ⟨rfl, by first | exact below_alloc3 _ _ _ _ | exact below_alloc2 _ _ _ | exact below_alloc _ _⟩

set_option maxRecDepth 100000 in
set_option maxHeartbeats 4000000 in
theorem toUpS_calls (L : Nat) (a : Option Addr) (n cap : Nat) (q : Nat → UPD) (w : World) (hn : n ≤ 1048576) (hT : RowN 2 L w a n fun i => upC (q i)) :
    Calls Tryz.prog 53 #[.slice a n cap] w fun e w' => (∃ B, e = .returned (.slice (some ⟨B, 0, none⟩) n n) ∧ w.heap.size ≤ B ∧ RowN 2 B w' (some ⟨B, 0, none⟩) n fun i => upC (q i)) ∧ Below w.heap.size w w' := by
  have HT : Hid (RowN 2 L w a n fun i => upC (q i)) := hT
  clear hT
  obtain ⟨c, hcs, hmk⟩ := make_ups n hn w
  have hR0 := rowOfC w c 114
  rw [hcs] at hR0
  have hB0 := below_alloc w (.cells c 114)
  go_enter Tryz.func53, Tryz.ntmps53
  go_wp2_with fail
  clear hmk
  go_loopw [4] (fun i wr => ∃ (k : Nat) (f : Nat → Value), k ≤ n ∧ i = .int .i64 k ∧ wr.rowIs w.heap.size 114 (n * 2) f ∧ (∀ m, m < k * 2 → f m = flK 2 (fun i => upC (q i)) m) ∧ Below w.heap.size w wr) (fun i _ => n - (intOf i).toNat)
  case atStart => exact ⟨0, _, Nat.zero_le _, rfl, hR0, fun m hm => by omega, hB0⟩
  case round =>
    clear hR0 hB0 hcs
    obtain ⟨k, f, hk, rfl, hR, hf, hB⟩ := hrel
    by_cases hkn : k < n
    · obtain ⟨b, off, rfl, _, hb, d0, d1⟩ := cells2 (HT.out.below hB) hkn
      go_wp2_with fail
      refine (toUp_calls (q k) wr).mono ?_
      rintro e w2 ⟨rfl, hb2⟩
      have hR2 := hR.of_block (hb2.block _ hR.lt)
      replace hB := below_call hB hb2
      clear d0 d1 hb2 hR
      have g0 := hR2.cell (i := k * 2) (by omega)
      have g1 := hR2.cell (i := k * 2 + 1) (by omega)
      have z := hR2.frozen
      obtain ⟨f', hR3, hf'⟩ := put2 hR2 k _ hf (.bool (q k).loc) (.int .i64 (q k).ix) _ (fun _ _ => rfl) rfl
      have HR : Hid _ := hR3
      have HF : Hid _ := hf'
      clear hR2 hR3 hf hf'
      go_wp2_with fail
      go_roundw
      case rel => exact ⟨k + 1, f', by omega, by go_num, HR.out, HF.out, fr2 k _ _ hB⟩
      case measure => simp [intOf]; omega
    · go_wp2_with fail
      have : k = n := by omega
      subst this
      go_ret
      exact ⟨⟨_, rfl, Nat.le_refl _, rowK (fun _ _ => rfl) (hR.congr hf)⟩, hB⟩
end Go.Proofs.YtcpjnddkibbddaaGreat
