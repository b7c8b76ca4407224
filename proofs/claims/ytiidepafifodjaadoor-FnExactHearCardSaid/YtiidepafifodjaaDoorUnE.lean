import Derived.Test.YtiidepafifodjaaDoorUnD
/-! Units copied by the laws: lists of ints, strings, ups. -/
namespace Go.Proofs.YtiidepafifodjaaDoor
open Go.RowKit
attribute [local go_sem] run_store_float

theorem infoInt : (Tryd.prog.info? 3).map (fun i => (i.zero, i.size, i.bytes)) = some (some (.int .i64 0), 1, 8) := by kernel_rfl
theorem make_ints (n : Nat) (hn : n ≤ 1048576) (w : World) : ∃ c : Array Value, c.size = n * 1 ∧ (Instr.makeSlice 68 (.int .i64 (n : Int)) (.int .i64 (n : Int))).run Tryd.prog w = .ok (.slice (some ⟨w.heap.size, 0, none⟩) n n) (w.alloc (.cells c 3)) := by
  obtain ⟨i, hi, hzz⟩ := Option.map_eq_some_iff.1 infoInt
  simp only [Prod.mk.injEq] at hzz
  obtain ⟨hz, hs, hb⟩ := hzz
  have hr := run_make (P := Tryd.prog) (w := w) 68 3 i _ Tryd.underlying68 hi hz .i64 .i64 n n (by omega) (Int.le_refl _) (by rw [hb]; omega) (by omega)
  simp only [Int.toNat_natCast, hs] at hr
  exact ⟨_, size_madeCells _ _, hr⟩
theorem infoString : (Tryd.prog.info? 9).map (fun i => (i.zero, i.size, i.bytes)) = some (some (.string ⟨#[]⟩), 1, 16) := by kernel_rfl
theorem make_strings (n : Nat) (hn : n ≤ 1048576) (w : World) : ∃ c : Array Value, c.size = n * 1 ∧ (Instr.makeSlice 23 (.int .i64 (n : Int)) (.int .i64 (n : Int))).run Tryd.prog w = .ok (.slice (some ⟨w.heap.size, 0, none⟩) n n) (w.alloc (.cells c 9)) := by
  obtain ⟨i, hi, hzz⟩ := Option.map_eq_some_iff.1 infoString
  simp only [Prod.mk.injEq] at hzz
  obtain ⟨hz, hs, hb⟩ := hzz
  have hr := run_make (P := Tryd.prog) (w := w) 23 9 i _ Tryd.underlying23 hi hz .i64 .i64 n n (by omega) (Int.le_refl _) (by rw [hb]; omega) (by omega)
  simp only [Int.toNat_natCast, hs] at hr
  exact ⟨_, size_madeCells _ _, hr⟩
set_option maxRecDepth 100000 in
set_option maxHeartbeats 4000000 in
theorem toStringS_calls (L : Nat) (a : Option Addr) (n cap : Nat) (q : Nat → ByteArray) (w : World) (hn : n ≤ 1048576) (hT : RowN 1 L w a n fun i => #[.string (q i)]) :
    Calls Tryd.prog 22 #[.slice a n cap] w fun e w' => (∃ B, e = .returned (.slice (some ⟨B, 0, none⟩) n n) ∧ w.heap.size ≤ B ∧ RowN 1 B w' (some ⟨B, 0, none⟩) n fun i => #[.string (q i)]) ∧ Below w.heap.size w w' := by
  have HT : Hid (RowN 1 L w a n fun i => #[.string (q i)]) := hT
  clear hT
  obtain ⟨c, hcs, hmk⟩ := make_strings n hn w
  have hR0 := rowOfC w c 9
  rw [hcs] at hR0
  have hB0 := below_alloc w (.cells c 9)
  go_enter Tryd.func22, Tryd.ntmps22
  go_wp2_with fail
  clear hmk
  go_loopw [4] (fun i wr => ∃ (k : Nat) (f : Nat → Value), k ≤ n ∧ i = .int .i64 k ∧ wr.rowIs w.heap.size 9 (n * 1) f ∧ (∀ m, m < k * 1 → f m = flK 1 (fun i => #[.string (q i)]) m) ∧ Below w.heap.size w wr) (fun i _ => n - (intOf i).toNat)
  case atStart => exact ⟨0, _, Nat.zero_le _, rfl, hR0, fun m hm => by omega, hB0⟩
  case round =>
    clear hR0 hB0 hcs
    obtain ⟨k, f, hk, rfl, hR, hf, hB⟩ := hrel
    by_cases hkn : k < n
    · obtain ⟨b, off, rfl, _, hb, d0⟩ := cells1 (HT.out.below hB) hkn
      have g0 := hR.cell (i := k) (by omega)
      have z := hR.frozen
      obtain ⟨f', hR3, hf'⟩ := put1 hR k _ hf (.string (q k)) _ (fun _ _ => rfl) rfl
      have HR : Hid _ := hR3
      have HF : Hid _ := hf'
      clear hR hR3 hf hf'
      go_wp2_with fail
      go_roundw
      case rel => exact ⟨k + 1, f', by omega, by go_num, HR.out, HF.out, fr1 k _ hB⟩
      case measure => simp [intOf]; omega
    · go_wp2_with fail
      have : k = n := by omega
      subst this
      go_ret
      exact ⟨⟨_, rfl, Nat.le_refl _, rowK (fun _ _ => rfl) (hR.congr hf)⟩, hB⟩

end Go.Proofs.YtiidepafifodjaaDoor
