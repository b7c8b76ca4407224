import Derived.Test.YtiidepafifodjabGreatPlain
import Derived.Lib.Bytealg
import Derived.Deep.QuietTactic
import Derived.BigQuiet
/-! spec.l1strings and strings.Compare: both are compareBytes. -/
namespace Go.Proofs.YtiidepafifodjabGreat
open Go.RowKit

abbrev cbs (a b : ByteArray) : Int := Lib.compareBytes a.data.toList b.data.toList

theorem drop_at (a : ByteArray) (k : Nat) (h : k < a.size) : a.data.toList.drop k = a[k] :: a.data.toList.drop (k + 1) := by
  rw [List.drop_eq_getElem_cons (by simpa using h)]; rfl

def cbAt (a b : ByteArray) (k : Nat) : Int := Lib.compareBytes (a.data.toList.drop k) (b.data.toList.drop k)

theorem cb_lt (a b : ByteArray) (k : Nat) (ha : k < a.size) (hb : k < b.size) (h : (a[k].toNat : Int) < (b[k].toNat : Int)) : cbAt a b k = -1 := by
  unfold cbAt
  rw [drop_at a k ha, drop_at b k hb]
  unfold Lib.compareBytes
  rw [if_pos (by rw [UInt8.lt_iff_toNat_lt]; omega)]
theorem cb_gt (a b : ByteArray) (k : Nat) (ha : k < a.size) (hb : k < b.size) (h : (b[k].toNat : Int) < (a[k].toNat : Int)) : cbAt a b k = 1 := by
  unfold cbAt
  rw [drop_at a k ha, drop_at b k hb]
  unfold Lib.compareBytes
  rw [if_neg (by rw [UInt8.lt_iff_toNat_lt]; omega), if_pos (by rw [UInt8.lt_iff_toNat_lt]; omega)]
theorem cb_eq (a b : ByteArray) (k : Nat) (ha : k < a.size) (hb : k < b.size) (h : (a[k].toNat : Int) = (b[k].toNat : Int)) : cbAt a b k = cbAt a b (k + 1) := by
  unfold cbAt
  rw [drop_at a k ha, drop_at b k hb]
  rw [Lib.compareBytes]
  rw [if_neg (by rw [UInt8.lt_iff_toNat_lt]; omega), if_neg (by rw [UInt8.lt_iff_toNat_lt]; omega)]
theorem cb_end (a b : ByteArray) (k : Nat) (ha : k ≤ a.size) (hb : k ≤ b.size) (h : k = a.size ∨ k = b.size) : cbAt a b k = if a.size < b.size then -1 else if b.size < a.size then 1 else 0 := by
  unfold cbAt
  have la : (a.data.toList.drop k).length = a.size - k := by rw [List.length_drop]; rfl
  have lb : (b.data.toList.drop k).length = b.size - k := by rw [List.length_drop]; rfl
  generalize a.data.toList.drop k = A at *
  generalize b.data.toList.drop k = B at *
  match A, B with
  | [], [] => simp only [List.length_nil] at la lb; rw [if_neg (by omega), if_neg (by omega)]; rfl
  | [], _ :: _ => simp only [List.length_nil, List.length_cons] at la lb; rw [if_pos (by omega)]; rfl
  | _ :: _, [] => simp only [List.length_nil, List.length_cons] at la lb; rw [if_neg (by omega), if_pos (by omega)]; rfl
  | _ :: _, _ :: _ => simp only [List.length_cons] at la lb; omega

set_option maxRecDepth 100000 in
set_option maxHeartbeats 2000000 in
theorem l1strings_calls (a b : ByteArray) (ha : a.size ≤ maxLen) (_hb : b.size ≤ maxLen) (w : World) :
    Calls Tryz.prog 53 #[.string a, .string b] w fun e w' => e = .returned (.int .i64 (cbs a b)) ∧ Below w.heap.size w w' := by
  unfold maxLen at ha _hb
  have e0 : cbs a b = cbAt a b 0 := by unfold cbAt; simp
  rw [e0]
  clear e0
  go_enter Tryz.func53, Tryz.ntmps53
  go_wp2
  go_loopw [5] (fun i wr => ∃ k : Nat, k ≤ a.size ∧ k ≤ b.size ∧ i = .int .i64 k ∧ Hid (cbAt a b 0 = cbAt a b k) ∧ Below w.heap.size w wr) (fun i _ => a.size - (intOf i).toNat)
  case atStart => exact ⟨0, Nat.zero_le _, Nat.zero_le _, rfl, rfl, Below.refl _ _⟩
  case round =>
    obtain ⟨k, hk1, hk2, rfl, HE, hB⟩ := hrel
    by_cases h1 : k < a.size
    · by_cases h2 : k < b.size
      · rcases Int.lt_trichotomy (a[k].toNat : Int) (b[k].toNat : Int) with h3 | h3 | h3
        · have HR : Hid (cbAt a b 0 = -1) := HE.out.trans (cb_lt a b k h1 h2 h3)
          go_wp2
          go_quiet ((fail))
          go_wp2
          go_ret
          exact ⟨ret_int HR.out.symm, below_drewN hB _⟩
        · have HR : Hid (cbAt a b 0 = cbAt a b (k + 1)) := HE.out.trans (cb_eq a b k h1 h2 h3)
          have h4 : ¬ (a[k].toNat : Int) < (b[k].toNat : Int) := by omega
          have h5 : ¬ (b[k].toNat : Int) < (a[k].toNat : Int) := by omega
          clear h3
          go_wp2
          go_quiet ((fail))
          go_wp2
          go_quiet ((fail))
          go_wp2
          go_roundw
          case rel => exact ⟨k + 1, by omega, by omega, by go_num, HR, below_drewN hB _⟩
          case measure => simp [intOf]; omega
        · have HR : Hid (cbAt a b 0 = 1) := HE.out.trans (cb_gt a b k h1 h2 h3)
          have h4 : ¬ (a[k].toNat : Int) < (b[k].toNat : Int) := by omega
          go_wp2
          go_quiet ((fail))
          go_wp2
          go_quiet ((fail))
          go_wp2
          go_ret
          exact ⟨ret_int HR.out.symm, below_drewN (below_drewN hB _) _⟩
      · have HR : Hid (cbAt a b 0 = _) := HE.out.trans (cb_end a b k hk1 hk2 (.inr (by omega)))
        by_cases h3 : (a.size : Int) < b.size
        · go_wp2; go_ret; exact ⟨ret_int (by rw [HR.out, if_pos (by omega)]), hB⟩
        · by_cases h4 : (b.size : Int) < a.size
          · go_wp2; go_ret; exact ⟨ret_int (by rw [HR.out, if_neg (by omega), if_pos (by omega)]), hB⟩
          · go_wp2; go_ret; exact ⟨ret_int (by rw [HR.out, if_neg (by omega), if_neg (by omega)]), hB⟩
    · have HR : Hid (cbAt a b 0 = _) := HE.out.trans (cb_end a b k hk1 hk2 (.inl (by omega)))
      by_cases h3 : (a.size : Int) < b.size
      · go_wp2; go_ret; exact ⟨ret_int (by rw [HR.out, if_pos (by omega)]), hB⟩
      · by_cases h4 : (b.size : Int) < a.size
        · go_wp2; go_ret; exact ⟨ret_int (by rw [HR.out, if_neg (by omega), if_pos (by omega)]), hB⟩
        · go_wp2; go_ret; exact ⟨ret_int (by rw [HR.out, if_neg (by omega), if_neg (by omega)]), hB⟩

theorem cmpstring_run (a b : ByteArray) (w : World) : (callFunc 231 #[.string a, .string b]).run Tryz.prog w = .ok (.value (.int .i64 (cbs a b))) w := by
  rw [run_callFunc_extern Tryz.func231 (by kernel_rfl) (by kernel_rfl) (by kernel_rfl) (show Extern.find Tryz.f231 = some Extern.BytealgCompare.compare by kernel_rfl), Lib.run_compareString]
  rfl

set_option maxRecDepth 100000 in
set_option maxHeartbeats 2000000 in
theorem strCompare_calls (a b : ByteArray) (w : World) :
    Calls Tryz.prog 107 #[.string a, .string b] w fun e w' => e = .returned (.int .i64 (cbs a b)) ∧ w' = w := by
  have hx := cmpstring_run a b
  generalize cbs a b = c at *
  go_enter Tryz.func107, Tryz.ntmps107
  go_wp2
  go_ret
  exact ⟨rfl, rfl⟩
end Go.Proofs.YtiidepafifodjabGreat
