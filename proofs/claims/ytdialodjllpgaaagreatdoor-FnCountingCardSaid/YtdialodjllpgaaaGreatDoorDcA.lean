import Derived.Test.YtdialodjllpgaaaGreatDoorPlain
import Derived.Laws.BytesString
import Derived.Laws.IdiomStrings
import Derived.Deep.DrawnRows
/-! Numbers told in decimal digits: the specification's. -/
namespace Go.Proofs.YtdialodjllpgaaaGreatDoor
open Go.RowKit
attribute [local go_sem ↓] Go.wp_at_zero Go.wp_at_succ

theorem below_b {w u : World} (h : Below w.heap.size w u) (o : Obj) : Below w.heap.size w (u.alloc o) := h.alloc h.size _
def dgD (j : Nat) : ByteArray := ByteArray.empty.push (UInt8.ofNat (48 + (j : Int) % 10).toNat)
def dgB (j : Nat) : UInt8 := UInt8.ofNat (48 + (j : Int) % 10).toNat
def dsF : Nat → Nat → List UInt8 → List UInt8
  | 0, _, o => o
  | k + 1, j, o => if j / 10 = 0 then dgB j :: o else dsF k (j / 10) (dgB j :: o)
/-- a number in decimal digits -/
def decB (n : Int) : List UInt8 := if n < 0 then 45 :: dsF 20 n.natAbs [] else dsF 20 n.natAbs []
def bA (l : List UInt8) : ByteArray := ⟨l.toArray⟩
theorem bA_size (l : List UInt8) : (bA l).size = l.length := by show l.toArray.size = _; simp
theorem bA_app (l r : List UInt8) : bA l ++ bA r = bA (l ++ r) := by
  apply ByteArray.ext
  simp [bA, ByteArray.data_append]
theorem dgD_app (j : Nat) (l : List UInt8) : dgD j ++ bA l = bA (dgB j :: l) := bA_app [dgB j] l
theorem dsF_len : ∀ (k j : Nat) (l : List UInt8), (dsF k j l).length ≤ l.length + k
  | 0, _, l => Nat.le_refl _
  | k + 1, j, l => by
    unfold dsF
    split
    · simp
    · have := dsF_len k (j / 10) (dgB j :: l)
      simp at this ⊢
      omega
theorem dsF_last {k j : Nat} {l : List UInt8} (h : j / 10 = 0) : dsF (k + 1) j l = dgB j :: l := by show (if j / 10 = 0 then _ else _) = _; rw [if_pos h]
theorem dsF_more {k j : Nat} {l : List UInt8} (h : ¬ j / 10 = 0) : dsF (k + 1) j l = dsF k (j / 10) (dgB j :: l) := by show (if j / 10 = 0 then _ else _) = _; rw [if_neg h]
theorem conv_digitD (j : Nat) (wr : World) : (convert 22 9 (.slice (some ⟨wr.heap.size, 0, none⟩) 1 1)).run Tryz.prog (wr.alloc (.cells #[.int .u8 (48 + (j : Int) % 10)] 5)) = .ok (.string (dgD j)) (wr.alloc (.cells #[.int .u8 (48 + (j : Int) % 10)] 5)) := by
  rw [run_convert_bytes_string _ 22 9 5 _ 1 1 Tryz.underlying22 Tryz.underlying5 Tryz.underlying9]
  have hl := run_loadCells_list (P := Tryz.prog) (wr.alloc (.cells #[.int .u8 (48 + (j : Int) % 10)] 5)) ⟨wr.heap.size, 0, none⟩ [Value.int .u8 (48 + (j : Int) % 10)] (fun i v hi => by
    have h0 : i = 0 := by
      have := (List.getElem?_eq_some_iff.1 hi).1
      simpa using this
    subst h0
    have e : v = .int .u8 (48 + (j : Int) % 10) := by cases hi; rfl
    rw [e]
    exact World.cell?_alloc_new wr _ _ 0)
  exact run_bytesToString _ ⟨wr.heap.size, 0, none⟩ 1 1 [48 + (j : Int) % 10] hl


set_option maxRecDepth 100000 in
set_option maxHeartbeats 4000000 in
theorem decimal_nn (j0 : Nat) (w : World) (hj : j0 ≤ 9223372036854775807) :
    Calls Tryz.prog 32 #[.int .i64 j0] w fun e w' => e = .returned (.string (bA (dsF 20 j0 []))) ∧ Below w.heap.size w w' := by
  have HJ0 : Hid (j0 ≤ 9223372036854775807) := hj
  have HP0 : Hid (j0 < 10 ^ 20) := Nat.lt_of_le_of_lt hj (by decide)
  have q1 : ((j0 : Int) == -9223372036854775808) = false := by simp
  have q2 : decide ((j0 : Int) < 0) = false := by simp
  clear hj
  go_enter Tryz.func32, Tryz.ntmps32
  go_wp2_with fail
  clear q1 q2
  go_loopw [0, 3] (fun i o wr => ∃ (j k : Nat) (l : List UInt8), Hid (j ≤ 9223372036854775807) ∧ i = .int .i64 j ∧ o = .string (bA l) ∧ Hid (dsF (k + 1) j l = dsF 20 j0 [] ∧ j < 10 ^ (k + 1)) ∧ l.length + k = 19 ∧ Below w.heap.size w wr) (fun i _ _ => (intOf i).toNat)
  case atStart => exact ⟨j0, 19, [], HJ0, rfl, rfl, ⟨rfl, HP0.out⟩, rfl, Below.refl _ _⟩
  case round =>
    clear HP0
    obtain ⟨j, k, l, HJ, rfl, rfl, HD, hk, hB⟩ := hrel
    have hcv := conv_digitD j wr
    have hd : (dgD j).size = 1 := rfl
    have hls := bA_size l
    have hq : (dgD j).size + (bA l).size ≤ 9223372036854775807 := by
      rw [hd, hls]
      omega
    have HA : Hid (dgD j ++ bA l = bA (dgB j :: l)) := dgD_app j l
    have hjl : (j : Int) ≤ 9223372036854775807 := by have := HJ.out; omega
    clear hd hls
    generalize dgD j = d at hcv hq HA
    by_cases h0 : j / 10 = 0
    · have HE : Hid (bA (dgB j :: l) = bA (dsF 20 j0 [])) := by
        have h := HD.out.1
        rw [dsF_last h0] at h
        show _ = _
        rw [h]
      have q3 : (((j : Int) / 10) == 0) = true := by simp; omega
      go_wp2_with fail
      go_ret
      refine ⟨?_, below_b hB _⟩
      show Ending.returned (.string (d ++ bA l)) = _
      rw [HA.out, HE.out]
    · have HE : Hid (dsF k (j / 10) (dgB j :: l) = dsF 20 j0 [] ∧ j / 10 < 10 ^ k) := by
        have h := HD.out.1
        rw [dsF_more h0] at h
        refine ⟨h, ?_⟩
        have := HD.out.2
        rw [Nat.pow_succ] at this
        omega
      have hk0 : 0 < k := by
        rcases Nat.eq_zero_or_pos k with e | e
        · have := HE.out.2
          rw [e, Nat.pow_zero] at this
          omega
        · exact e
      have q3 : (((j : Int) / 10) == 0) = false := by simp; omega
      go_wp2_with fail
      refine ⟨⟨j / 10, k - 1, dgB j :: l, (by have := HJ.out; show j / 10 ≤ _; omega), by rfl, by rw [HA.out], (by rw [Nat.sub_add_cancel hk0]; exact HE.out), by simp; omega, below_b hB _⟩, ?_⟩
      simp [intOf]; omega
theorem dec_min : bA (decB (-9223372036854775808)) = ⟨#[45, 57, 50, 50, 51, 51, 55, 50, 48, 51, 54, 56, 53, 52, 55, 55, 53, 56, 48, 56]⟩ := by decide

set_option maxRecDepth 100000 in
set_option maxHeartbeats 4000000 in
theorem decimal_calls (n : Int) (w : World) (h0 : -9223372036854775808 ≤ n) (h1 : n ≤ 9223372036854775807) :
    Calls Tryz.prog 32 #[.int .i64 n] w fun e w' => e = .returned (.string (bA (decB n))) ∧ Below w.heap.size w w' := by
  by_cases hn : n < 0
  · by_cases hm : n = -9223372036854775808
    · subst hm
      rw [dec_min]
      clear h0 h1 hn
      go_enter Tryz.func32, Tryz.ntmps32
      go_wp2_with fail
      go_ret
      exact ⟨rfl, Below.refl _ _⟩
    · obtain ⟨j, rfl⟩ : ∃ j : Nat, n = -(j : Int) := ⟨n.natAbs, by omega⟩
      have hj : j ≤ 9223372036854775807 := by omega
      have e : decB (-(j : Int)) = 45 :: dsF 20 j [] := by unfold decB; rw [if_pos hn, Int.natAbs_neg, Int.natAbs_natCast]
      have HE : Hid (decB (-(j : Int)) = 45 :: dsF 20 j []) := e
      have HJ : Hid (j ≤ 9223372036854775807) := hj
      have q1 : (-(j : Int) == -9223372036854775808) = false := by simpa using hm
      clear e hm
      go_enter Tryz.func32, Tryz.ntmps32
      go_wp2_with fail
      refine (decimal_nn j w HJ.out).mono ?_
      rintro e w2 ⟨rfl, hB⟩
      have HA : Hid (bA [45] ++ bA (dsF 20 j []) = bA (decB (-(j : Int)))) := by
        show _ = _
        rw [bA_app, HE.out]
        rfl
      have hls : (bA (dsF 20 j [])).size ≤ 20 := by rw [bA_size]; have := dsF_len 20 j []; simpa using this
      have hq : ((⟨#[45]⟩ : ByteArray) ++ bA (dsF 20 j [])).size ≤ maxLen := by
        rw [ByteArray.size_append]
        have : (⟨#[45]⟩ : ByteArray).size = 1 := rfl
        unfold maxLen
        omega
      have hq2 : (⟨#[45]⟩ : ByteArray).size + (bA (dsF 20 j [])).size ≤ 9223372036854775807 := by
        have : (⟨#[45]⟩ : ByteArray).size = 1 := rfl
        omega
      clear hls
      generalize bA (dsF 20 j []) = s at HA hq hq2
      go_wp2_with fail
      go_ret
      exact ⟨congrArg (fun x => Ending.returned (.string x)) HA.out, hB⟩
  · obtain ⟨j, rfl⟩ : ∃ j : Nat, n = (j : Int) := ⟨n.natAbs, by omega⟩
    have e : decB (j : Int) = dsF 20 j [] := by unfold decB; rw [if_neg hn, Int.natAbs_natCast]
    rw [e]
    exact decimal_nn j w (by omega)
end Go.Proofs.YtdialodjllpgaaaGreatDoor

/-! spec.l1zero, spec.ValueOk, laws.szValue, laws.toValue. -/
namespace Go.Proofs.YtdialodjllpgaaaGreatDoor
open Go.RowKit
attribute [local go_sem] run_store_float

set_option maxHeartbeats 1000000 in
theorem z0_calls (k n : Int) (f : Nat) (s : ByteArray) (r : Int) (w : World) :
    Calls Tryz.prog 69 #[vOf k n f s r, .bool false, .bool false, .bool false, .bool false] w fun e w' => e = .returned (.bool (n == 0 && fz f && se s && r == 0)) ∧ Below w.heap.size w w' := by
  go_enter Tryz.func69, Tryz.ntmps69; go_wp2
  all_goals (go_ret; exact ⟨ret_bool (by simp_all [fz, se]), below_alloc _ _⟩)

set_option maxHeartbeats 1000000 in
theorem zn_calls (k n : Int) (f : Nat) (s : ByteArray) (r : Int) (w : World) :
    Calls Tryz.prog 69 #[vOf k n f s r, .bool true, .bool false, .bool false, .bool false] w fun e w' => e = .returned (.bool (fz f && se s && r == 0)) ∧ Below w.heap.size w w' := by
  go_enter Tryz.func69, Tryz.ntmps69; go_wp2
  all_goals (go_ret; exact ⟨ret_bool (by simp_all [fz, se]), below_alloc _ _⟩)

set_option maxHeartbeats 1000000 in
theorem zf_calls (k n : Int) (f : Nat) (s : ByteArray) (r : Int) (w : World) :
    Calls Tryz.prog 69 #[vOf k n f s r, .bool false, .bool true, .bool false, .bool false] w fun e w' => e = .returned (.bool (n == 0 && se s && r == 0)) ∧ Below w.heap.size w w' := by
  go_enter Tryz.func69, Tryz.ntmps69; go_wp2
  all_goals (go_ret; exact ⟨ret_bool (by simp_all [se]), below_alloc _ _⟩)

set_option maxHeartbeats 1000000 in
theorem zs_calls (k n : Int) (f : Nat) (s : ByteArray) (r : Int) (w : World) :
    Calls Tryz.prog 69 #[vOf k n f s r, .bool false, .bool false, .bool true, .bool false] w fun e w' => e = .returned (.bool (n == 0 && fz f && r == 0)) ∧ Below w.heap.size w w' := by
  go_enter Tryz.func69, Tryz.ntmps69; go_wp2
  all_goals (go_ret; exact ⟨ret_bool (by simp_all [fz]), below_alloc _ _⟩)

set_option maxHeartbeats 1000000 in
theorem zr_calls (k n : Int) (f : Nat) (s : ByteArray) (r : Int) (w : World) :
    Calls Tryz.prog 69 #[vOf k n f s r, .bool false, .bool false, .bool false, .bool true] w fun e w' => e = .returned (.bool (n == 0 && fz f && se s)) ∧ Below w.heap.size w w' := by
  go_enter Tryz.func69, Tryz.ntmps69; go_wp2
  all_goals (go_ret; exact ⟨ret_bool (by simp_all [fz, se]), below_alloc _ _⟩)

set_option maxHeartbeats 1000000 in
theorem specOk_calls (k n : Int) (f : Nat) (s : ByteArray) (r : Int) (w : World) :
    Calls Tryz.prog 31 #[vOf k n f s r] w fun e w' => e = .returned (.bool (okB k n f s r)) ∧ Below w.heap.size w w' := by
  by_cases c0 : k = 0
  · subst c0; go_enter Tryz.func31, Tryz.ntmps31
    go_wp2_with (go_at_call 69; refine (z0_calls _ _ _ _ _ _).mono ?_; rintro e w1 ⟨rfl, hb⟩; obtain ⟨hc, hf⟩ := bcell hb)
    all_goals (go_ret; exact ⟨ret_bool (by simp_all [okB, ueB, usB]), below_call (below_alloc _ _) hb⟩)
  by_cases c1 : k = 1
  · subst c1; go_enter Tryz.func31, Tryz.ntmps31
    go_wp2_with (go_at_call 69; refine (zn_calls _ _ _ _ _ _).mono ?_; rintro e w1 ⟨rfl, hb⟩; obtain ⟨hc, hf⟩ := bcell hb)
    all_goals (go_ret; exact ⟨ret_bool (by simp_all [okB, ueB, usB]), below_call (below_alloc _ _) hb⟩)
  by_cases c2 : k = 2
  · subst c2; go_enter Tryz.func31, Tryz.ntmps31
    go_wp2_with (go_at_call 69; refine (zn_calls _ _ _ _ _ _).mono ?_; rintro e w1 ⟨rfl, hb⟩; obtain ⟨hc, hf⟩ := bcell hb)
    all_goals (go_ret; exact ⟨ret_bool (by simp_all [okB, ueB, usB]), below_call (below_alloc _ _) hb⟩)
  by_cases c3 : k = 3
  · subst c3; go_enter Tryz.func31, Tryz.ntmps31
    go_wp2_with (go_at_call 69; refine (zf_calls _ _ _ _ _ _).mono ?_; rintro e w1 ⟨rfl, hb⟩; obtain ⟨hc, hf⟩ := bcell hb)
    all_goals (go_ret; exact ⟨ret_bool (by simp_all [okB, ueB, usB]), below_call (below_alloc _ _) hb⟩)
  by_cases c4 : k = 4
  · subst c4; go_enter Tryz.func31, Tryz.ntmps31
    go_wp2_with (go_at_call 69; refine (zs_calls _ _ _ _ _ _).mono ?_; rintro e w1 ⟨rfl, hb⟩; obtain ⟨hc, hf⟩ := bcell hb)
    all_goals (go_ret; exact ⟨ret_bool (by simp_all [okB, ueB, usB]), below_call (below_alloc _ _) hb⟩)
  by_cases c5 : k = 5
  · subst c5; go_enter Tryz.func31, Tryz.ntmps31
    go_wp2_with (go_at_call 69; refine (zr_calls _ _ _ _ _ _).mono ?_; rintro e w1 ⟨rfl, hb⟩; obtain ⟨hc, hf⟩ := bcell hb)
    all_goals (go_ret; exact ⟨ret_bool (by simp_all [okB, ueB, usB]), below_call (below_alloc _ _) hb⟩)
  by_cases c6 : k = 6
  · subst c6; go_enter Tryz.func31, Tryz.ntmps31
    go_wp2_with (go_at_call 69; refine (zr_calls _ _ _ _ _ _).mono ?_; rintro e w1 ⟨rfl, hb⟩; obtain ⟨hc, hf⟩ := bcell hb)
    all_goals (go_ret; exact ⟨ret_bool (by simp_all [okB, ueB, usB]), below_call (below_alloc _ _) hb⟩)
  by_cases c7 : k = 7
  · subst c7; go_enter Tryz.func31, Tryz.ntmps31
    go_wp2_with (go_at_call 69; refine (zr_calls _ _ _ _ _ _).mono ?_; rintro e w1 ⟨rfl, hb⟩; obtain ⟨hc, hf⟩ := bcell hb)
    all_goals (go_ret; exact ⟨ret_bool (by simp_all [okB, ueB, usB]), below_call (below_alloc _ _) hb⟩)
  by_cases c8 : k = 8
  · subst c8; go_enter Tryz.func31, Tryz.ntmps31
    go_wp2_with (go_at_call 69; refine (zn_calls _ _ _ _ _ _).mono ?_; rintro e w1 ⟨rfl, hb⟩; obtain ⟨hc, hf⟩ := bcell hb)
    all_goals (go_ret; exact ⟨ret_bool (by simp_all [okB, ueB, usB] <;> omega), below_call (below_alloc _ _) hb⟩)
  have e1 : okB k n f s r = false := by
    have a : usB k n s r = false := by
      unfold usB
      rw [if_neg (by omega), if_neg (by omega), if_neg (by omega), if_neg (by omega), if_neg (by omega), if_neg (by omega), if_neg (by omega)]
    simp [okB, a]
  rw [e1]; clear e1
  have a0 : (k == 0) = false := by simpa using c0
  have a1 : (k == 1) = false := by simpa using c1
  have a2 : (k == 2) = false := by simpa using c2
  have a3 : (k == 3) = false := by simpa using c3
  have a4 : (k == 4) = false := by simpa using c4
  have a5 : (k == 5) = false := by simpa using c5
  have a6 : (k == 6) = false := by simpa using c6
  have a7 : (k == 7) = false := by simpa using c7
  have a8 : (k == 8) = false := by simpa using c8
  clear c0 c1 c2 c3 c4 c5 c6 c7 c8
  go_enter Tryz.func31, Tryz.ntmps31
  go_wp2
  go_ret
  exact ⟨rfl, below_alloc _ _⟩

end Go.Proofs.YtdialodjllpgaaaGreatDoor
