import Derived.Test.YtiidepafifodjaaDoorPlain
import Derived.Laws.BytesString
import Derived.Laws.IdiomStrings
import Derived.Deep.DrawnRows
/-! Numbers told in decimal digits: the specification's. -/
namespace Go.Proofs.YtiidepafifodjaaDoor
open Go.RowKit
attribute [local go_sem ↓] Go.wp_at_zero Go.wp_at_succ

theorem below_b {w u : World} (h : Below w.heap.size w u) (o : Obj) : Below w.heap.size w (u.alloc o) := h.alloc h.size _
def dgD (j : Nat) : ByteArray := ByteArray.empty.push (UInt8.ofNat (48 + (j : Int) % 10).toNat)
def dgB (j : Nat) : UInt8 := UInt8.ofNat (48 + (j : Int) % 10).toNat
def dsF : Nat → Nat → List UInt8 → List UInt8
  | 0, _, o => o
  | k + 1, j, o => if j / 10 = 0 then dgB j :: o else dsF k (j / 10) (dgB j :: o)
/-- a number in decimal digits -/
def decB (n : Int) : List UInt8 := if n < 0 then 45 :: dsF 20 n.natAbs [] else dsF 20 n.natAbs []
def bA (l : List UInt8) : ByteArray := ⟨l.toArray⟩
theorem bA_size (l : List UInt8) : (bA l).size = l.length := by show l.toArray.size = _; simp
theorem bA_app (l r : List UInt8) : bA l ++ bA r = bA (l ++ r) := by
  apply ByteArray.ext
  simp [bA, ByteArray.data_append]
theorem dgD_app (j : Nat) (l : List UInt8) : dgD j ++ bA l = bA (dgB j :: l) := bA_app [dgB j] l
theorem dsF_len : ∀ (k j : Nat) (l : List UInt8), (dsF k j l).length ≤ l.length + k
  | 0, _, l => Nat.le_refl _
  | k + 1, j, l => by
    unfold dsF
    split
    · simp
    · have := dsF_len k (j / 10) (dgB j :: l)
      simp at this ⊢
      omega
theorem dsF_last {k j : Nat} {l : List UInt8} (h : j / 10 = 0) : dsF (k + 1) j l = dgB j :: l := by show (if j / 10 = 0 then _ else _) = _; rw [if_pos h]
theorem dsF_more {k j : Nat} {l : List UInt8} (h : ¬ j / 10 = 0) : dsF (k + 1) j l = dsF k (j / 10) (dgB j :: l) := by show (if j / 10 = 0 then _ else _) = _; rw [if_neg h]
theorem conv_digitD (j : Nat) (wr : World) : (convert 27 9 (.slice (some ⟨wr.heap.size, 0, none⟩) 1 1)).run Tryd.prog (wr.alloc (.cells #[.int .u8 (48 + (j : Int) % 10)] 5)) = .ok (.string (dgD j)) (wr.alloc (.cells #[.int .u8 (48 + (j : Int) % 10)] 5)) := by
  rw [run_convert_bytes_string _ 27 9 5 _ 1 1 Tryd.underlying27 Tryd.underlying5 Tryd.underlying9]
  have hl := run_loadCells_list (P := Tryd.prog) (wr.alloc (.cells #[.int .u8 (48 + (j : Int) % 10)] 5)) ⟨wr.heap.size, 0, none⟩ [Value.int .u8 (48 + (j : Int) % 10)] (fun i v hi => by
    have h0 : i = 0 := by
      have := (List.getElem?_eq_some_iff.1 hi).1
      simpa using this
    subst h0
    have e : v = .int .u8 (48 + (j : Int) % 10) := by cases hi; rfl
    rw [e]
    exact World.cell?_alloc_new wr _ _ 0)
  exact run_bytesToString _ ⟨wr.heap.size, 0, none⟩ 1 1 [48 + (j : Int) % 10] hl


set_option maxRecDepth 100000 in
set_option maxHeartbeats 4000000 in
theorem decimal_nn (j0 : Nat) (w : World) (hj : j0 ≤ 9223372036854775807) :
    Calls Tryd.prog 48 #[.int .i64 j0] w fun e w' => e = .returned (.string (bA (dsF 20 j0 []))) ∧ Below w.heap.size w w' := by
  have HJ0 : Hid (j0 ≤ 9223372036854775807) := hj
  have HP0 : Hid (j0 < 10 ^ 20) := Nat.lt_of_le_of_lt hj (by decide)
  have q1 : ((j0 : Int) == -9223372036854775808) = false := by simp
  have q2 : decide ((j0 : Int) < 0) = false := by simp
  clear hj
  go_enter Tryd.func48, Tryd.ntmps48
  go_wp2_with fail
  clear q1 q2
  go_loopw [0, 3] (fun i o wr => ∃ (j k : Nat) (l : List UInt8), Hid (j ≤ 9223372036854775807) ∧ i = .int .i64 j ∧ o = .string (bA l) ∧ Hid (dsF (k + 1) j l = dsF 20 j0 [] ∧ j < 10 ^ (k + 1)) ∧ l.length + k = 19 ∧ Below w.heap.size w wr) (fun i _ _ => (intOf i).toNat)
  case atStart => exact ⟨j0, 19, [], HJ0, rfl, rfl, ⟨rfl, HP0.out⟩, rfl, Below.refl _ _⟩
  case round =>
    clear HP0
    obtain ⟨j, k, l, HJ, rfl, rfl, HD, hk, hB⟩ := hrel
    have hcv := conv_digitD j wr
    have hd : (dgD j).size = 1 := rfl
    have hls := bA_size l
    have hq : (dgD j).size + (bA l).size ≤ 9223372036854775807 := by
      rw [hd, hls]
      omega
    have HA : Hid (dgD j ++ bA l = bA (dgB j :: l)) := dgD_app j l
    have hjl : (j : Int) ≤ 9223372036854775807 := by have := HJ.out; omega
    clear hd hls
    generalize dgD j = d at hcv hq HA
    by_cases h0 : j / 10 = 0
    · have HE : Hid (bA (dgB j :: l) = bA (dsF 20 j0 [])) := by
        have h := HD.out.1
        rw [dsF_last h0] at h
        show _ = _
        rw [h]
      have q3 : (((j : Int) / 10) == 0) = true := by simp; omega
      go_wp2_with fail
      go_ret
      refine ⟨?_, below_b hB _⟩
      show Ending.returned (.string (d ++ bA l)) = _
      rw [HA.out, HE.out]
    · have HE : Hid (dsF k (j / 10) (dgB j :: l) = dsF 20 j0 [] ∧ j / 10 < 10 ^ k) := by
        have h := HD.out.1
        rw [dsF_more h0] at h
        refine ⟨h, ?_⟩
        have := HD.out.2
        rw [Nat.pow_succ] at this
        omega
      have hk0 : 0 < k := by
        rcases Nat.eq_zero_or_pos k with e | e
        · have := HE.out.2
          rw [e, Nat.pow_zero] at this
          omega
        · exact e
      have q3 : (((j : Int) / 10) == 0) = false := by simp; omega
      go_wp2_with fail
      refine ⟨⟨j / 10, k - 1, dgB j :: l, (by have := HJ.out; show j / 10 ≤ _; omega), by rfl, by rw [HA.out], (by rw [Nat.sub_add_cancel hk0]; exact HE.out), by simp; omega, below_b hB _⟩, ?_⟩
      simp [intOf]; omega
theorem dec_min : bA (decB (-9223372036854775808)) = ⟨#[45, 57, 50, 50, 51, 51, 55, 50, 48, 51, 54, 56, 53, 52, 55, 55, 53, 56, 48, 56]⟩ := by decide

set_option maxRecDepth 100000 in
set_option maxHeartbeats 4000000 in
theorem decimal_calls (n : Int) (w : World) (h0 : -9223372036854775808 ≤ n) (h1 : n ≤ 9223372036854775807) :
    Calls Tryd.prog 48 #[.int .i64 n] w fun e w' => e = .returned (.string (bA (decB n))) ∧ Below w.heap.size w w' := by
  by_cases hn : n < 0
  · by_cases hm : n = -9223372036854775808
    · subst hm
      rw [dec_min]
      clear h0 h1 hn
      go_enter Tryd.func48, Tryd.ntmps48
      go_wp2_with fail
      go_ret
      exact ⟨rfl, Below.refl _ _⟩
    · obtain ⟨j, rfl⟩ : ∃ j : Nat, n = -(j : Int) := ⟨n.natAbs, by omega⟩
      have hj : j ≤ 9223372036854775807 := by omega
      have e : decB (-(j : Int)) = 45 :: dsF 20 j [] := by unfold decB; rw [if_pos hn, Int.natAbs_neg, Int.natAbs_natCast]
      have HE : Hid (decB (-(j : Int)) = 45 :: dsF 20 j []) := e
      have HJ : Hid (j ≤ 9223372036854775807) := hj
      have q1 : (-(j : Int) == -9223372036854775808) = false := by simpa using hm
      clear e hm
      go_enter Tryd.func48, Tryd.ntmps48
      go_wp2_with fail
      refine (decimal_nn j w HJ.out).mono ?_
      rintro e w2 ⟨rfl, hB⟩
      have HA : Hid (bA [45] ++ bA (dsF 20 j []) = bA (decB (-(j : Int)))) := by
        show _ = _
        rw [bA_app, HE.out]
        rfl
      have hls : (bA (dsF 20 j [])).size ≤ 20 := by rw [bA_size]; have := dsF_len 20 j []; simpa using this
      have hq : ((⟨#[45]⟩ : ByteArray) ++ bA (dsF 20 j [])).size ≤ maxLen := by
        rw [ByteArray.size_append]
        have : (⟨#[45]⟩ : ByteArray).size = 1 := rfl
        unfold maxLen
        omega
      have hq2 : (⟨#[45]⟩ : ByteArray).size + (bA (dsF 20 j [])).size ≤ 9223372036854775807 := by
        have : (⟨#[45]⟩ : ByteArray).size = 1 := rfl
        omega
      clear hls
      generalize bA (dsF 20 j []) = s at HA hq hq2
      go_wp2_with fail
      go_ret
      exact ⟨congrArg (fun x => Ending.returned (.string x)) HA.out, hB⟩
  · obtain ⟨j, rfl⟩ : ∃ j : Nat, n = (j : Int) := ⟨n.natAbs, by omega⟩
    have e : decB (j : Int) = dsF 20 j [] := by unfold decB; rw [if_neg hn, Int.natAbs_natCast]
    rw [e]
    exact decimal_nn j w (by omega)
end Go.Proofs.YtiidepafifodjaaDoor
