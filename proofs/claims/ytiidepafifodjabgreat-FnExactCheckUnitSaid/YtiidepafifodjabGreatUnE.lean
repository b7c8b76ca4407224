import Derived.Test.YtiidepafifodjabGreatShF
/-! Units copied by the laws: lists of ints, strings, ups. -/
namespace Go.Proofs.YtiidepafifodjabGreat
open Go.RowKit
attribute [local go_sem] run_store_float

theorem infoInt : (Tryz.prog.info? 3).map (fun i => (i.zero, i.size, i.bytes)) = some (some (.int .i64 0), 1, 8) := by kernel_rfl
theorem make_ints (n : Nat) (hn : n ≤ 1048576) (w : World) : ∃ c : Array Value, c.size = n * 1 ∧ (Instr.makeSlice 36 (.int .i64 (n : Int)) (.int .i64 (n : Int))).run Tryz.prog w = .ok (.slice (some ⟨w.heap.size, 0, none⟩) n n) (w.alloc (.cells c 3)) := by
  obtain ⟨i, hi, hzz⟩ := Option.map_eq_some_iff.1 infoInt
  simp only [Prod.mk.injEq] at hzz
  obtain ⟨hz, hs, hb⟩ := hzz
  have hr := run_make (P := Tryz.prog) (w := w) 36 3 i _ Tryz.underlying36 hi hz .i64 .i64 n n (by omega) (Int.le_refl _) (by rw [hb]; omega) (by omega)
  simp only [Int.toNat_natCast, hs] at hr
  exact ⟨_, size_madeCells _ _, hr⟩
theorem infoString : (Tryz.prog.info? 9).map (fun i => (i.zero, i.size, i.bytes)) = some (some (.string ⟨#[]⟩), 1, 16) := by kernel_rfl
theorem make_strings (n : Nat) (hn : n ≤ 1048576) (w : World) : ∃ c : Array Value, c.size = n * 1 ∧ (Instr.makeSlice 64 (.int .i64 (n : Int)) (.int .i64 (n : Int))).run Tryz.prog w = .ok (.slice (some ⟨w.heap.size, 0, none⟩) n n) (w.alloc (.cells c 9)) := by
  obtain ⟨i, hi, hzz⟩ := Option.map_eq_some_iff.1 infoString
  simp only [Prod.mk.injEq] at hzz
  obtain ⟨hz, hs, hb⟩ := hzz
  have hr := run_make (P := Tryz.prog) (w := w) 64 9 i _ Tryz.underlying64 hi hz .i64 .i64 n n (by omega) (Int.le_refl _) (by rw [hb]; omega) (by omega)
  simp only [Int.toNat_natCast, hs] at hr
  exact ⟨_, size_madeCells _ _, hr⟩
theorem infoUp : (Tryz.prog.info? 169).map (fun i => (i.zero, i.size, i.bytes)) = some (some (.agg #[.bool false, .int .i64 0]), 2, 16) := by kernel_rfl
theorem make_ups (n : Nat) (hn : n ≤ 1048576) (w : World) : ∃ c : Array Value, c.size = n * 2 ∧ (Instr.makeSlice 65 (.int .i64 (n : Int)) (.int .i64 (n : Int))).run Tryz.prog w = .ok (.slice (some ⟨w.heap.size, 0, none⟩) n n) (w.alloc (.cells c 169)) := by
  obtain ⟨i, hi, hzz⟩ := Option.map_eq_some_iff.1 infoUp
  simp only [Prod.mk.injEq] at hzz
  obtain ⟨hz, hs, hb⟩ := hzz
  have hr := run_make (P := Tryz.prog) (w := w) 65 169 i _ Tryz.underlying65 hi hz .i64 .i64 n n (by omega) (Int.le_refl _) (by rw [hb]; omega) (by omega)
  simp only [Int.toNat_natCast, hs] at hr
  exact ⟨_, size_madeCells _ _, hr⟩

set_option maxRecDepth 100000 in
set_option maxHeartbeats 4000000 in
theorem toIntS_calls (L : Nat) (a : Option Addr) (n cap : Nat) (r : Nat → Int) (w : World) (hn : n ≤ 1048576) (hT : IntsAt L w a n r) :
    Calls Tryz.prog 236 #[.slice a n cap] w fun e w' => (∃ B, e = .returned (.slice (some ⟨B, 0, none⟩) n n) ∧ w.heap.size ≤ B ∧ IntsAt B w' (some ⟨B, 0, none⟩) n r) ∧ Below w.heap.size w w' := by
  have HT : Hid (RowN 1 L w a n fun i => #[.int .i64 (r i)]) := hT
  clear hT
  obtain ⟨c, hcs, hmk⟩ := make_ints n hn w
  have hR0 := rowOfC w c 3
  rw [hcs] at hR0
  have hB0 := below_alloc w (.cells c 3)
  go_enter Tryz.func236, Tryz.ntmps236
  go_wp2_with fail
  clear hmk
  go_loopw [4] (fun i wr => ∃ (k : Nat) (f : Nat → Value), k ≤ n ∧ i = .int .i64 k ∧ wr.rowIs w.heap.size 3 (n * 1) f ∧ (∀ m, m < k * 1 → f m = flK 1 (fun i => #[.int .i64 (r i)]) m) ∧ Below w.heap.size w wr) (fun i _ => n - (intOf i).toNat)
  case atStart => exact ⟨0, _, Nat.zero_le _, rfl, hR0, fun m hm => by omega, hB0⟩
  case round =>
    clear hR0 hB0 hcs
    obtain ⟨k, f, hk, rfl, hR, hf, hB⟩ := hrel
    by_cases hkn : k < n
    · obtain ⟨b, off, rfl, _, hb, d0⟩ := cells1 (HT.out.below hB) hkn
      have g0 := hR.cell (i := k) (by omega)
      have z := hR.frozen
      obtain ⟨f', hR3, hf'⟩ := put1 hR k _ hf (.int .i64 (r k)) _ (fun _ _ => rfl) rfl
      have HR : Hid _ := hR3
      have HF : Hid _ := hf'
      clear hR hR3 hf hf'
      go_wp2_with fail
      go_roundw
      case rel => exact ⟨k + 1, f', by omega, by go_num, HR.out, HF.out, fr1 k _ hB⟩
      case measure => simp [intOf]; omega
    · go_wp2_with fail
      have : k = n := by omega
      subst this
      go_ret
      exact ⟨⟨_, rfl, Nat.le_refl _, rowK (fun _ _ => rfl) (hR.congr hf)⟩, hB⟩

set_option maxRecDepth 100000 in
set_option maxHeartbeats 4000000 in
theorem toStringS_calls (L : Nat) (a : Option Addr) (n cap : Nat) (q : Nat → ByteArray) (w : World) (hn : n ≤ 1048576) (hT : RowN 1 L w a n fun i => #[.string (q i)]) :
    Calls Tryz.prog 128 #[.slice a n cap] w fun e w' => (∃ B, e = .returned (.slice (some ⟨B, 0, none⟩) n n) ∧ w.heap.size ≤ B ∧ RowN 1 B w' (some ⟨B, 0, none⟩) n fun i => #[.string (q i)]) ∧ Below w.heap.size w w' := by
  have HT : Hid (RowN 1 L w a n fun i => #[.string (q i)]) := hT
  clear hT
  obtain ⟨c, hcs, hmk⟩ := make_strings n hn w
  have hR0 := rowOfC w c 9
  rw [hcs] at hR0
  have hB0 := below_alloc w (.cells c 9)
  go_enter Tryz.func128, Tryz.ntmps128
  go_wp2_with fail
  clear hmk
  go_loopw [4] (fun i wr => ∃ (k : Nat) (f : Nat → Value), k ≤ n ∧ i = .int .i64 k ∧ wr.rowIs w.heap.size 9 (n * 1) f ∧ (∀ m, m < k * 1 → f m = flK 1 (fun i => #[.string (q i)]) m) ∧ Below w.heap.size w wr) (fun i _ => n - (intOf i).toNat)
  case atStart => exact ⟨0, _, Nat.zero_le _, rfl, hR0, fun m hm => by omega, hB0⟩
  case round =>
    clear hR0 hB0 hcs
    obtain ⟨k, f, hk, rfl, hR, hf, hB⟩ := hrel
    by_cases hkn : k < n
    · obtain ⟨b, off, rfl, _, hb, d0⟩ := cells1 (HT.out.below hB) hkn
      have g0 := hR.cell (i := k) (by omega)
      have z := hR.frozen
      obtain ⟨f', hR3, hf'⟩ := put1 hR k _ hf (.string (q k)) _ (fun _ _ => rfl) rfl
      have HR : Hid _ := hR3
      have HF : Hid _ := hf'
      clear hR hR3 hf hf'
      go_wp2_with fail
      go_roundw
      case rel => exact ⟨k + 1, f', by omega, by go_num, HR.out, HF.out, fr1 k _ hB⟩
      case measure => simp [intOf]; omega
    · go_wp2_with fail
      have : k = n := by omega
      subst this
      go_ret
      exact ⟨⟨_, rfl, Nat.le_refl _, rowK (fun _ _ => rfl) (hR.congr hf)⟩, hB⟩

set_option maxRecDepth 100000 in
set_option maxHeartbeats 4000000 in
theorem toUp_calls (d : UPD) (w : World) : Calls Tryz.prog 207 #[upV d] w fun e w' => e = .returned (upV d) ∧ Below w.heap.size w w' := by
  go_enter Tryz.func207, Tryz.ntmps207
  go_wp2_with fail
  exact bodyPost_ret (v := upV d) (by simp [results, Tryz.results207, go_sem]) rfl ⟨rfl, by first | exact below_alloc3 _ _ _ _ | exact below_alloc2 _ _ _ | exact below_alloc _ _⟩

set_option maxRecDepth 100000 in
set_option maxHeartbeats 4000000 in
theorem toUpS_calls (L : Nat) (a : Option Addr) (n cap : Nat) (q : Nat → UPD) (w : World) (hn : n ≤ 1048576) (hT : RowN 2 L w a n fun i => upC (q i)) :
    Calls Tryz.prog 129 #[.slice a n cap] w fun e w' => (∃ B, e = .returned (.slice (some ⟨B, 0, none⟩) n n) ∧ w.heap.size ≤ B ∧ RowN 2 B w' (some ⟨B, 0, none⟩) n fun i => upC (q i)) ∧ Below w.heap.size w w' := by
  have HT : Hid (RowN 2 L w a n fun i => upC (q i)) := hT
  clear hT
  obtain ⟨c, hcs, hmk⟩ := make_ups n hn w
  have hR0 := rowOfC w c 169
  rw [hcs] at hR0
  have hB0 := below_alloc w (.cells c 169)
  go_enter Tryz.func129, Tryz.ntmps129
  go_wp2_with fail
  clear hmk
  go_loopw [4] (fun i wr => ∃ (k : Nat) (f : Nat → Value), k ≤ n ∧ i = .int .i64 k ∧ wr.rowIs w.heap.size 169 (n * 2) f ∧ (∀ m, m < k * 2 → f m = flK 2 (fun i => upC (q i)) m) ∧ Below w.heap.size w wr) (fun i _ => n - (intOf i).toNat)
  case atStart => exact ⟨0, _, Nat.zero_le _, rfl, hR0, fun m hm => by omega, hB0⟩
  case round =>
    clear hR0 hB0 hcs
    obtain ⟨k, f, hk, rfl, hR, hf, hB⟩ := hrel
    by_cases hkn : k < n
    · obtain ⟨b, off, rfl, _, hb, d0, d1⟩ := cells2 (HT.out.below hB) hkn
      go_wp2_with fail
      refine (toUp_calls (q k) wr).mono ?_
      rintro e w2 ⟨rfl, hb2⟩
      have hR2 := hR.of_block (hb2.block _ hR.lt)
      replace hB := below_call hB hb2
      clear d0 d1 hb2 hR
      have g0 := hR2.cell (i := k * 2) (by omega)
      have g1 := hR2.cell (i := k * 2 + 1) (by omega)
      have z := hR2.frozen
      obtain ⟨f', hR3, hf'⟩ := put2 hR2 k _ hf (.bool (q k).loc) (.int .i64 (q k).ix) _ (fun _ _ => rfl) rfl
      have HR : Hid _ := hR3
      have HF : Hid _ := hf'
      clear hR2 hR3 hf hf'
      go_wp2_with fail
      go_roundw
      case rel => exact ⟨k + 1, f', by omega, by go_num, HR.out, HF.out, fr2 k _ _ hB⟩
      case measure => simp [intOf]; omega
    · go_wp2_with fail
      have : k = n := by omega
      subst this
      go_ret
      exact ⟨⟨_, rfl, Nat.le_refl _, rowK (fun _ _ => rfl) (hR.congr hf)⟩, hB⟩
end Go.Proofs.YtiidepafifodjabGreat
