import Derived.Test.YtiidepafifodjaaPutF
import Derived.Laws.BytesString
import Derived.Laws.IdiomStrings
/-! The laws' marks. -/
namespace Go.Proofs.Ytiidepafifodjaa
open Go.RowKit
attribute [local go_sem] run_store_float
attribute [local go_sem ↓] Go.wp_at_zero Go.wp_at_succ

def dgt (j : Nat) : ByteArray := ByteArray.empty.push (UInt8.ofNat (48 + (j : Int) % 10).toNat)
/-- the digits of j, ahead of what is there -/
def mtL (j : Nat) (o : ByteArray) : ByteArray := if j = 0 then o else mtL (j / 10) (dgt j ++ o)
termination_by j
decreasing_by omega
theorem mtL_zero (o : ByteArray) : mtL 0 o = o := by rw [mtL, if_pos rfl]
theorem mtL_step {j : Nat} (h : j ≠ 0) (o : ByteArray) : mtL (j / 10) (dgt j ++ o) = mtL j o := by rw [mtL.eq_1 j, if_neg h]
def mt (k : Nat) : ByteArray := ⟨#[109]⟩ ++ mtL k ⟨#[]⟩

theorem conv_digit (j : Nat) (wr : World) : (convert 38 9 (.slice (some ⟨wr.heap.size, 0, none⟩) 1 1)).run Try.prog (wr.alloc (.cells #[.int .u8 (48 + (j : Int) % 10)] 5)) = .ok (.string (dgt j)) (wr.alloc (.cells #[.int .u8 (48 + (j : Int) % 10)] 5)) := by
  rw [run_convert_bytes_string _ 38 9 5 _ 1 1 Try.underlying38 Try.underlying5 Try.underlying9]
  have hl := run_loadCells_list (P := Try.prog) (wr.alloc (.cells #[.int .u8 (48 + (j : Int) % 10)] 5)) ⟨wr.heap.size, 0, none⟩ [Value.int .u8 (48 + (j : Int) % 10)] (fun i v hi => by
    have h0 : i = 0 := by
      have := (List.getElem?_eq_some_iff.1 hi).1
      simpa using this
    subst h0
    have e : v = .int .u8 (48 + (j : Int) % 10) := by cases hi; rfl
    rw [e, add_none']
    exact World.cell?_alloc_new wr _ _ 0)
  exact run_bytesToString _ ⟨wr.heap.size, 0, none⟩ 1 1 [48 + (j : Int) % 10] hl

set_option maxRecDepth 100000 in
set_option maxHeartbeats 4000000 in
theorem markText_calls (k : Nat) (w : World) (hk : 0 < k) (hk2 : k ≤ 100000000) :
    Calls Try.prog 107 #[.int .i64 k] w fun e w' => e = .returned (.string (mt k)) ∧ Below w.heap.size w w' := by
  go_enter Try.func107, Try.ntmps107
  go_wp2_with fail
  have hk0 : decide (k = 0) = false := by simp; omega
  rw [hk0]
  clear hk0
  go_loopw [0, 3] (fun i o wr => ∃ (j : Nat) (s : ByteArray), i = .int .i64 j ∧ o = .string s ∧ s.size + j ≤ k ∧ mtL j s = mtL k ⟨#[]⟩ ∧ Below w.heap.size w wr) (fun i _ _ => (intOf i).toNat)
  case atStart => exact ⟨k, ⟨#[]⟩, rfl, rfl, by show 0 + k ≤ k; omega, rfl, Below.refl _ _⟩
  case round =>
    obtain ⟨j, s, rfl, rfl, hs, hm, hB⟩ := hrel
    by_cases hj : j = 0
    · subst hj
      rw [mtL_zero] at hm
      have Hm : Hid (s = mtL k ⟨#[]⟩) := hm
      clear hm
      have hq : (⟨#[109]⟩ ++ s : ByteArray).size ≤ maxLen := by
        simp [ByteArray.size_append, maxLen] at hs ⊢
        have : (⟨#[109]⟩ : ByteArray).size = 1 := rfl
        omega
      go_wp2_with fail
      go_ret
      exact ⟨by have := Hm.out; subst this; rfl, hB⟩
    · have hj0 : 0 < j := by omega
      have hcv := conv_digit j wr
      have hd : (dgt j).size = 1 := rfl
      have hq : (dgt j).size + s.size ≤ 9223372036854775807 := by
        simp only [hd]
        omega
      have Hm : Hid (mtL (j / 10) (dgt j ++ s) = mtL k ⟨#[]⟩) := (mtL_step hj s).trans hm
      have Hs : Hid ((dgt j ++ s).size + j / 10 ≤ k) := by
        show (dgt j ++ s).size + j / 10 ≤ k
        rw [ByteArray.size_append, hd]; omega
      clear hm hd
      generalize dgt j = d at hcv hq Hm Hs
      go_wp2_with fail
      go_roundw
      case rel => exact ⟨j / 10, d ++ s, by rfl, rfl, Hs.out, Hm.out, below_a hB _⟩
      case measure => simp [intOf]; omega
end Go.Proofs.Ytiidepafifodjaa
