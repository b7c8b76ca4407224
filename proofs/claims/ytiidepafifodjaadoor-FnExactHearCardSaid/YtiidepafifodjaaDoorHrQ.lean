import Derived.Test.YtiidepafifodjaaDoorHrP
import Derived.Test.YtiidepafifodjaaDoorRpC
/-! What the laws do with bytes and marks. -/
namespace Go.Proofs.YtiidepafifodjaaDoor
open Go.RowKit
attribute [local go_sem] run_store_float
attribute [local go_sem ↓] Go.wp_at_zero Go.wp_at_succ

theorem make_bytes (n : Nat) (hn : n ≤ 1048576) (w : World) : ∃ c : Array Value, c.size = n * 1 ∧ (Instr.makeSlice 27 (.int .i64 (n : Int)) (.int .i64 (n : Int))).run Tryd.prog w = .ok (.slice (some ⟨w.heap.size, 0, none⟩) n n) (w.alloc (.cells c 5)) := by
  obtain ⟨i, hi, hzz⟩ := Option.map_eq_some_iff.1 infoByte
  simp only [Prod.mk.injEq] at hzz
  obtain ⟨hz, hs, hb⟩ := hzz
  have hr := run_make (P := Tryd.prog) (w := w) 27 5 i _ Tryd.underlying27 hi hz .i64 .i64 n n (by omega) (Int.le_refl _) (by rw [hb]; omega) (by omega)
  simp only [Int.toNat_natCast, hs] at hr
  exact ⟨_, size_madeCells _ _, hr⟩

set_option maxRecDepth 100000 in
set_option maxHeartbeats 4000000 in
theorem toByteS_calls (L : Nat) (a : Option Addr) (n cap : Nat) (q : Nat → Int) (w : World) (hn : n ≤ 1048576) (hT : RowN 1 L w a n fun i => #[.int .u8 (q i)]) :
    Calls Tryd.prog 15 #[.slice a n cap] w fun e w' => (e = .returned (.slice (some ⟨w.heap.size, 0, none⟩) n n) ∧ w'.rowIs w.heap.size 5 (n * 1) (flK 1 fun i => #[.int .u8 (q i)])) ∧ Below w.heap.size w w' := by
  have HT : Hid (RowN 1 L w a n fun i => #[.int .u8 (q i)]) := hT
  clear hT
  obtain ⟨c, hcs, hmk⟩ := make_bytes n hn w
  have hR0 := rowOfC w c 5
  rw [hcs] at hR0
  have hB0 := below_alloc w (.cells c 5)
  go_enter Tryd.func15, Tryd.ntmps15
  go_wp2_with fail
  clear hmk
  go_loopw [4] (fun i wr => ∃ (k : Nat) (f : Nat → Value), k ≤ n ∧ i = .int .i64 k ∧ wr.rowIs w.heap.size 5 (n * 1) f ∧ (∀ m, m < k * 1 → f m = flK 1 (fun i => #[.int .u8 (q i)]) m) ∧ Below w.heap.size w wr) (fun i _ => n - (intOf i).toNat)
  case atStart => exact ⟨0, _, Nat.zero_le _, rfl, hR0, fun m hm => by omega, hB0⟩
  case round =>
    clear hR0 hB0 hcs
    obtain ⟨k, f, hk, rfl, hR, hf, hB⟩ := hrel
    by_cases hkn : k < n
    · obtain ⟨b, off, rfl, _, hb, d0⟩ := cellsB1 (RowN.below HT.out hB) hkn
      have g0 := hR.cell (i := k) (by omega)
      have z := hR.frozen
      obtain ⟨f', hR3, hf'⟩ := put1 hR k _ hf (.int .u8 (q k)) _ (fun _ _ => rfl) rfl
      have HR : Hid _ := hR3
      have HF : Hid _ := hf'
      clear hR hR3 hf hf'
      go_wp2_with fail
      go_roundw
      case rel => exact ⟨k + 1, f', by omega, by go_num, HR.out, HF.out, fr1 k _ hB⟩
      case measure => simp [intOf]; omega
    · go_wp2_with fail
      have : k = n := by omega
      subst this
      go_ret
      exact ⟨⟨rfl, hR.congr hf⟩, hB⟩
/-- the digits of a mark -/
def mtF : Nat → Nat → ByteArray → ByteArray
  | 0, _, s => s
  | f + 1, j, s => if j = 0 then s else mtF f (j / 10) (dgU j ++ s)
/-- a mark's text -/
def mtT (z : Int) : ByteArray := (⟨#[109]⟩ : ByteArray) ++ mtF 20 z.toNat ⟨#[]⟩
theorem mtF_zero (f : Nat) (s : ByteArray) : mtF f 0 s = s := by cases f <;> rfl
theorem mtF_step {j : Nat} {s t : ByteArray} (hj : 0 < j) (h : ∃ f, mtF f j s = t ∧ j < 10 ^ f) : ∃ f, mtF f (j / 10) (dgU j ++ s) = t ∧ j / 10 < 10 ^ f := by
  obtain ⟨f, h1, h2⟩ := h
  cases f with
  | zero => rw [Nat.pow_zero] at h2; omega
  | succ f =>
    refine ⟨f, ?_, by rw [Nat.pow_succ] at h2; omega⟩
    rw [← h1]
    show _ = (if j = 0 then s else mtF f (j / 10) (dgU j ++ s))
    rw [if_neg (by omega)]

set_option maxRecDepth 100000 in
set_option maxHeartbeats 4000000 in
theorem markText_calls (z : Int) (w : World) (hk : 0 < z) (hk2 : z < 9223372036854775808) :
    Calls Tryd.prog 42 #[.int .i64 z] w fun e w' => e = .returned (.string (mtT z)) ∧ Below w.heap.size w w' := by
  obtain ⟨k, rfl⟩ : ∃ n : Nat, z = n := ⟨z.toNat, by omega⟩
  have hk' : 0 < k := by omega
  have HK : Hid (k * 10 ^ 0 < 10 ^ 19) := by
    show k * 10 ^ 0 < 10 ^ 19
    rw [Nat.pow_zero, Nat.mul_one]
    exact Nat.lt_trans (by omega : k < 9223372036854775808) (by decide)
  have HKJ : Hid (k ≤ 9223372036854775807) := by show k ≤ 9223372036854775807; omega
  clear hk hk2
  go_enter Tryd.func42, Tryd.ntmps42
  go_wp2_with fail
  have hk0 : decide (k = 0) = false := by simp; omega
  rw [hk0]
  clear hk0
  go_loopw [0, 3] (fun i o wr => ∃ (j : Nat) (s : ByteArray), Hid (∃ f, mtF f j s = mtF 20 k ⟨#[]⟩ ∧ j < 10 ^ f) ∧ Hid (j ≤ 9223372036854775807) ∧ i = .int .i64 j ∧ o = .string s ∧ Hid (j * 10 ^ s.size < 10 ^ 19) ∧ s.size ≤ 19 ∧ Below w.heap.size w wr) (fun i _ _ => (intOf i).toNat)
  case atStart => exact ⟨k, ⟨#[]⟩, ⟨20, rfl, Nat.lt_of_le_of_lt HKJ.out (by decide)⟩, HKJ, rfl, rfl, HK, (by show 0 ≤ 19; omega), Below.refl _ _⟩
  case round =>
    obtain ⟨j, s, HMt, HJ, rfl, rfl, HM, hs, hB⟩ := hrel
    by_cases hj : j = 0
    · subst hj
      have hq : (⟨#[109]⟩ ++ s : ByteArray).size ≤ maxLen := by
        simp [ByteArray.size_append, maxLen] at hs ⊢
        have : (⟨#[109]⟩ : ByteArray).size = 1 := rfl
        omega
      go_wp2_with fail
      go_ret
      refine ⟨?_, hB⟩
      have e : s = mtF 20 k ⟨#[]⟩ := by
        obtain ⟨f, h1, _⟩ := HMt.out
        rw [← h1, mtF_zero]
      unfold mtT
      rw [Int.toNat_natCast, ← e]
      rfl
    · have hj0 : 0 < j := by omega
      have hcv := conv_digitU j wr
      have hd : (dgU j).size = 1 := rfl
      have hq : (dgU j).size + s.size ≤ 9223372036854775807 := by
        simp only [hd]
        omega
      obtain ⟨h1, h2⟩ := dg_step hj0 HM.out
      have Hm : Hid ((j / 10) * 10 ^ (dgU j ++ s).size < 10 ^ 19) := by
        show (j / 10) * 10 ^ (dgU j ++ s).size < 10 ^ 19
        rw [ByteArray.size_append, hd]; exact h2
      have Hs : Hid ((dgU j ++ s).size ≤ 19) := by
        show (dgU j ++ s).size ≤ 19
        rw [ByteArray.size_append, hd]; omega
      have HM3 : Hid (∃ f, mtF f (j / 10) (dgU j ++ s) = mtF 20 k ⟨#[]⟩ ∧ j / 10 < 10 ^ f) := mtF_step hj0 HMt.out
      clear HM hd h2 HMt
      have hjl : (j : Int) ≤ 9223372036854775807 := by have := HJ.out; omega
      generalize dgU j = d at hcv hq Hm Hs HM3
      go_wp2_with fail
      go_roundw
      case rel => exact ⟨j / 10, d ++ s, HM3, (by have := HJ.out; show j / 10 ≤ _; omega), by rfl, rfl, Hm, Hs.out, below_a hB _⟩
      case measure => simp [intOf]; omega

end Go.Proofs.YtiidepafifodjaaDoor
