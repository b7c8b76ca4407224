import Derived.Test.YtiidepafifodjabFloorW
import Derived.Test.YtiidepafifodjabAsserts
import Derived.Test.YtiidepafifodjabPlain
import Derived.Lib.Bytealg
import Derived.Deep.QuietTactic
import Derived.BigQuiet
/-! Comparing numbers: cmp.Compare, spec.l1intflt, impl.orderMixed and their kin. -/
namespace Go.Proofs.Ytiidepafifodjab
open Go.RowKit

def cmpI (n m : Int) : Int := if n < m then -1 else if m < n then 1 else 0
def cmpF (f g : Nat) : Int := if FloatKind.f64.format.order f g = some .lt then -1 else if FloatKind.f64.format.order f g = some .gt then 1 else 0
def flI (f : Nat) : Int := (floatToIntVal .f64 (Fl.floorW f) .i64).getD 0
def cmpIF (n : Int) (f : Nat) : Int :=
  if FloatKind.f64.format.order f two63 ≠ some .lt then -1
  else if FloatKind.f64.format.order f ntwo63 = some .lt then 1
  else if n < flI f then -1 else if flI f < n then 1
  else if FloatKind.f64.format.order f (Fl.floorW f) = some .gt then -1 else 0

theorem cmpIF_rng (n : Int) (f : Nat) : cmpIF n f = -1 ∨ cmpIF n f = 0 ∨ cmpIF n f = 1 := by
  unfold cmpIF
  (repeat' split) <;> simp

set_option maxRecDepth 100000 in
set_option maxHeartbeats 2000000 in
theorem l1intflt_calls (n : Int) (f : Nat) (hf : f < 2 ^ 64) (hE : FloatKind.f64.format.order f f = some .eq) (w : World) : Calls Try.prog 87 #[.int .i64 n, .float .f64 f] w fun e w' => e = .returned (.int .i64 (cmpIF n f)) ∧ w' = w := by
  obtain ⟨d2, a2⟩ := ord_some hf hE Fl.fin_ntwo63
  obtain ⟨d1, a1⟩ := ord_some hf hE Fl.fin_two63
  have a2' : FloatKind.f64.format.order f ntwo63 = some d2 := a2
  have a1' : FloatKind.f64.format.order f two63 = some d1 := a1
  have HF : Hid (f < 2 ^ 64) := hf
  unfold cmpIF
  rw [a1', a2']
  by_cases c1 : d1 ≠ .lt
  · rw [if_pos (by simpa using c1)]
    clear a1' a2' hf a2
    cases d1 <;> first | exact absurd rfl c1 | skip
    all_goals
      go_enter Try.func87, Try.ntmps87
      go_wp2_with (first | fail | fail)
      go_ret; exact ⟨rfl, rfl⟩
  have c1 : d1 = .lt := Decidable.not_not.1 c1
  rw [if_neg (by simp [c1])]
  subst c1
  by_cases c2 : d2 = .lt
  · rw [if_pos (by rw [c2])]
    subst c2
    clear a1' a2' hf
    go_enter Try.func87, Try.ntmps87
    go_wp2_with (first | fail | fail)
    go_ret; exact ⟨rfl, rfl⟩
  rw [if_neg (by simpa using c2)]
  obtain ⟨v, hv⟩ := floor_cut hf (by rw [a2']; cases d2 <;> simp at c2 ⊢) a1'
  have hvv : flI f = v := by unfold flI; rw [hv]; rfl
  rw [hvv]
  clear hvv
  have hcv := fun (w : World) => run_convert_float_int (P := Try.prog) w 22 2 .f64 .i64 (Fl.floorW f) v (by rw [Try.underlying22]; rfl) Try.underlying2 hv
  clear hv a1' a2' hf
  cases d2 <;> first | exact absurd rfl c2 | skip
  all_goals
    clear c2
    by_cases g1 : n < v
    · rw [if_pos g1]
      go_enter Try.func87, Try.ntmps87
      go_wp2_with (go_at_call 38; refine (l1floor_calls _ HF.out hE _).mono ?_; rintro e w2 ⟨rfl, rfl⟩)
      go_ret; exact ⟨rfl, rfl⟩
    rw [if_neg g1]
    by_cases g2 : v < n
    · rw [if_pos g2]
      go_enter Try.func87, Try.ntmps87
      go_wp2_with (go_at_call 38; refine (l1floor_calls _ HF.out hE _).mono ?_; rintro e w2 ⟨rfl, rfl⟩)
      go_ret; exact ⟨rfl, rfl⟩
    rw [if_neg g2]
    by_cases g3 : FloatKind.f64.format.order f (Fl.floorW f) = some .gt
    · rw [if_pos g3]
      go_enter Try.func87, Try.ntmps87
      go_wp2_with (go_at_call 38; refine (l1floor_calls _ HF.out hE _).mono ?_; rintro e w2 ⟨rfl, rfl⟩)
      go_ret; exact ⟨rfl, rfl⟩
    · rw [if_neg g3]
      have g3' : (FloatKind.f64.format.order f (Fl.floorW f) == some .gt) = false := by simpa using g3
      go_enter Try.func87, Try.ntmps87
      go_wp2_with (go_at_call 38; refine (l1floor_calls _ HF.out hE _).mono ?_; rintro e w2 ⟨rfl, rfl⟩)
      go_ret; exact ⟨rfl, rfl⟩

end Go.Proofs.Ytiidepafifodjab

/-! spec.l1strings and strings.Compare: both are compareBytes. -/
namespace Go.Proofs.Ytiidepafifodjab
open Go.RowKit

abbrev cbs (a b : ByteArray) : Int := Lib.compareBytes a.data.toList b.data.toList

theorem drop_at (a : ByteArray) (k : Nat) (h : k < a.size) : a.data.toList.drop k = a[k] :: a.data.toList.drop (k + 1) := by
  rw [List.drop_eq_getElem_cons (by simpa using h)]; rfl

def cbAt (a b : ByteArray) (k : Nat) : Int := Lib.compareBytes (a.data.toList.drop k) (b.data.toList.drop k)

theorem cb_lt (a b : ByteArray) (k : Nat) (ha : k < a.size) (hb : k < b.size) (h : (a[k].toNat : Int) < (b[k].toNat : Int)) : cbAt a b k = -1 := by
  unfold cbAt
  rw [drop_at a k ha, drop_at b k hb]
  unfold Lib.compareBytes
  rw [if_pos (by rw [UInt8.lt_iff_toNat_lt]; omega)]
theorem cb_gt (a b : ByteArray) (k : Nat) (ha : k < a.size) (hb : k < b.size) (h : (b[k].toNat : Int) < (a[k].toNat : Int)) : cbAt a b k = 1 := by
  unfold cbAt
  rw [drop_at a k ha, drop_at b k hb]
  unfold Lib.compareBytes
  rw [if_neg (by rw [UInt8.lt_iff_toNat_lt]; omega), if_pos (by rw [UInt8.lt_iff_toNat_lt]; omega)]
theorem cb_eq (a b : ByteArray) (k : Nat) (ha : k < a.size) (hb : k < b.size) (h : (a[k].toNat : Int) = (b[k].toNat : Int)) : cbAt a b k = cbAt a b (k + 1) := by
  unfold cbAt
  rw [drop_at a k ha, drop_at b k hb]
  rw [Lib.compareBytes]
  rw [if_neg (by rw [UInt8.lt_iff_toNat_lt]; omega), if_neg (by rw [UInt8.lt_iff_toNat_lt]; omega)]
theorem cb_end (a b : ByteArray) (k : Nat) (ha : k ≤ a.size) (hb : k ≤ b.size) (h : k = a.size ∨ k = b.size) : cbAt a b k = if a.size < b.size then -1 else if b.size < a.size then 1 else 0 := by
  unfold cbAt
  have la : (a.data.toList.drop k).length = a.size - k := by rw [List.length_drop]; rfl
  have lb : (b.data.toList.drop k).length = b.size - k := by rw [List.length_drop]; rfl
  generalize a.data.toList.drop k = A at *
  generalize b.data.toList.drop k = B at *
  match A, B with
  | [], [] => simp only [List.length_nil] at la lb; rw [if_neg (by omega), if_neg (by omega)]; rfl
  | [], _ :: _ => simp only [List.length_nil, List.length_cons] at la lb; rw [if_pos (by omega)]; rfl
  | _ :: _, [] => simp only [List.length_nil, List.length_cons] at la lb; rw [if_neg (by omega), if_pos (by omega)]; rfl
  | _ :: _, _ :: _ => simp only [List.length_cons] at la lb; omega

set_option maxRecDepth 100000 in
set_option maxHeartbeats 2000000 in
theorem l1strings_calls (a b : ByteArray) (ha : a.size ≤ maxLen) (_hb : b.size ≤ maxLen) (w : World) :
    Calls Try.prog 86 #[.string a, .string b] w fun e w' => e = .returned (.int .i64 (cbs a b)) ∧ Below w.heap.size w w' := by
  unfold maxLen at ha _hb
  have e0 : cbs a b = cbAt a b 0 := by unfold cbAt; simp
  rw [e0]
  clear e0
  go_enter Try.func86, Try.ntmps86
  go_wp2
  go_loopw [5] (fun i wr => ∃ k : Nat, k ≤ a.size ∧ k ≤ b.size ∧ i = .int .i64 k ∧ Hid (cbAt a b 0 = cbAt a b k) ∧ Below w.heap.size w wr) (fun i _ => a.size - (intOf i).toNat)
  case atStart => exact ⟨0, Nat.zero_le _, Nat.zero_le _, rfl, rfl, Below.refl _ _⟩
  case round =>
    obtain ⟨k, hk1, hk2, rfl, HE, hB⟩ := hrel
    by_cases h1 : k < a.size
    · by_cases h2 : k < b.size
      · rcases Int.lt_trichotomy (a[k].toNat : Int) (b[k].toNat : Int) with h3 | h3 | h3
        · have HR : Hid (cbAt a b 0 = -1) := HE.out.trans (cb_lt a b k h1 h2 h3)
          go_wp2
          go_quiet ((fail))
          go_wp2
          go_ret
          exact ⟨ret_int HR.out.symm, below_drewN hB _⟩
        · have HR : Hid (cbAt a b 0 = cbAt a b (k + 1)) := HE.out.trans (cb_eq a b k h1 h2 h3)
          have h4 : ¬ (a[k].toNat : Int) < (b[k].toNat : Int) := by omega
          have h5 : ¬ (b[k].toNat : Int) < (a[k].toNat : Int) := by omega
          clear h3
          go_wp2
          go_quiet ((fail))
          go_wp2
          go_quiet ((fail))
          go_wp2
          go_roundw
          case rel => exact ⟨k + 1, by omega, by omega, by go_num, HR, below_drewN hB _⟩
          case measure => simp [intOf]; omega
        · have HR : Hid (cbAt a b 0 = 1) := HE.out.trans (cb_gt a b k h1 h2 h3)
          have h4 : ¬ (a[k].toNat : Int) < (b[k].toNat : Int) := by omega
          go_wp2
          go_quiet ((fail))
          go_wp2
          go_quiet ((fail))
          go_wp2
          go_ret
          exact ⟨ret_int HR.out.symm, below_drewN (below_drewN hB _) _⟩
      · have HR : Hid (cbAt a b 0 = _) := HE.out.trans (cb_end a b k hk1 hk2 (.inr (by omega)))
        by_cases h3 : (a.size : Int) < b.size
        · go_wp2; go_ret; exact ⟨ret_int (by rw [HR.out, if_pos (by omega)]), hB⟩
        · by_cases h4 : (b.size : Int) < a.size
          · go_wp2; go_ret; exact ⟨ret_int (by rw [HR.out, if_neg (by omega), if_pos (by omega)]), hB⟩
          · go_wp2; go_ret; exact ⟨ret_int (by rw [HR.out, if_neg (by omega), if_neg (by omega)]), hB⟩
    · have HR : Hid (cbAt a b 0 = _) := HE.out.trans (cb_end a b k hk1 hk2 (.inl (by omega)))
      by_cases h3 : (a.size : Int) < b.size
      · go_wp2; go_ret; exact ⟨ret_int (by rw [HR.out, if_pos (by omega)]), hB⟩
      · by_cases h4 : (b.size : Int) < a.size
        · go_wp2; go_ret; exact ⟨ret_int (by rw [HR.out, if_neg (by omega), if_pos (by omega)]), hB⟩
        · go_wp2; go_ret; exact ⟨ret_int (by rw [HR.out, if_neg (by omega), if_neg (by omega)]), hB⟩

end Go.Proofs.Ytiidepafifodjab
