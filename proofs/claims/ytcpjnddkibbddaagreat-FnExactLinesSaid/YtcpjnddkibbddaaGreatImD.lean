import Derived.Test.YtcpjnddkibbddaaGreatFitQ
import Ieee.Arith
import Derived.Laws.FloatBits
/-! The program's check of a unit: rows of sets. -/
namespace Go.Proofs.YtcpjnddkibbddaaGreat
open Go.RowKit
attribute [local go_sem] run_store_float
attribute [local go_sem ↓] Go.wp_at_zero Go.wp_at_succ

theorem row1_calls (F m : Nat) (nd : Nat → ND) (nas : Nat → NA) (a : Option Addr) (n cap : Nat) (c : Nat → Int) (R : Nat) (s0 : Nat) (w : World) (b0 : s0 < 18446744073709551616) (hn : n ≤ 1048576) (hcap : n ≤ cap) (hA : AH w F m nd nas) (hT : IntsAt 0 w a n c) (h0 : w.cell? ⟨R, 0, none⟩ = some (.int .u64 (s0 : Int))) :
    Calls Tryz.prog 147 #[.pointer (some ⟨F, 0, none⟩), .slice a n cap, .slice (some ⟨R, 0, none⟩) 1 1] w fun e w' => e = .returned (.bool ((n : Int) == 1 && kidS s0 nd m (c 0))) ∧ w' = w := by
  refine (row_calls F m nd nas a n cap c R 1 (fun i => s0) w (fun i hi => ?_) hn (by omega) hcap hA hT (fun i hi => ?_)).mono ?_
  · rcases (show i = 0 by omega) with rfl
    · exact b0
  · rcases (show i = 0 by omega) with rfl
    · exact h0
  · rintro e w' ⟨rfl, rfl⟩
    refine ⟨ret_bool ?_, rfl⟩
    rw [Bool.eq_iff_iff]
    simp only [Bool.and_eq_true, allB_true]
    constructor
    · rintro ⟨h, k⟩
      exact ⟨h, k 0 (by omega) (by omega)⟩
    · rintro ⟨h, k0⟩
      refine ⟨h, fun i _ hi => ?_⟩
      rcases (show i = 0 by omega) with rfl
      · exact k0
theorem row2_calls (F m : Nat) (nd : Nat → ND) (nas : Nat → NA) (a : Option Addr) (n cap : Nat) (c : Nat → Int) (R : Nat) (s0 s1 : Nat) (w : World) (b0 : s0 < 18446744073709551616) (b1 : s1 < 18446744073709551616) (hn : n ≤ 1048576) (hcap : n ≤ cap) (hA : AH w F m nd nas) (hT : IntsAt 0 w a n c) (h0 : w.cell? ⟨R, 0, none⟩ = some (.int .u64 (s0 : Int))) (h1 : w.cell? ⟨R, 1, none⟩ = some (.int .u64 (s1 : Int))) :
    Calls Tryz.prog 147 #[.pointer (some ⟨F, 0, none⟩), .slice a n cap, .slice (some ⟨R, 0, none⟩) 2 2] w fun e w' => e = .returned (.bool ((n : Int) == 2 && kidS s0 nd m (c 0) && kidS s1 nd m (c 1))) ∧ w' = w := by
  refine (row_calls F m nd nas a n cap c R 2 (fun i => if i = 0 then s0 else s1) w (fun i hi => ?_) hn (by omega) hcap hA hT (fun i hi => ?_)).mono ?_
  · rcases (show i = 0 ∨ i = 1 by omega) with rfl | rfl
    · exact b0
    · exact b1
  · rcases (show i = 0 ∨ i = 1 by omega) with rfl | rfl
    · exact h0
    · exact h1
  · rintro e w' ⟨rfl, rfl⟩
    refine ⟨ret_bool ?_, rfl⟩
    rw [Bool.eq_iff_iff]
    simp only [Bool.and_eq_true, allB_true]
    constructor
    · rintro ⟨h, k⟩
      exact ⟨⟨h, k 0 (by omega) (by omega)⟩, k 1 (by omega) (by omega)⟩
    · rintro ⟨⟨h, k0⟩, k1⟩
      refine ⟨h, fun i _ hi => ?_⟩
      rcases (show i = 0 ∨ i = 1 by omega) with rfl | rfl
      · exact k0
      · exact k1
theorem row3_calls (F m : Nat) (nd : Nat → ND) (nas : Nat → NA) (a : Option Addr) (n cap : Nat) (c : Nat → Int) (R : Nat) (s0 s1 s2 : Nat) (w : World) (b0 : s0 < 18446744073709551616) (b1 : s1 < 18446744073709551616) (b2 : s2 < 18446744073709551616) (hn : n ≤ 1048576) (hcap : n ≤ cap) (hA : AH w F m nd nas) (hT : IntsAt 0 w a n c) (h0 : w.cell? ⟨R, 0, none⟩ = some (.int .u64 (s0 : Int))) (h1 : w.cell? ⟨R, 1, none⟩ = some (.int .u64 (s1 : Int))) (h2 : w.cell? ⟨R, 2, none⟩ = some (.int .u64 (s2 : Int))) :
    Calls Tryz.prog 147 #[.pointer (some ⟨F, 0, none⟩), .slice a n cap, .slice (some ⟨R, 0, none⟩) 3 3] w fun e w' => e = .returned (.bool ((n : Int) == 3 && kidS s0 nd m (c 0) && kidS s1 nd m (c 1) && kidS s2 nd m (c 2))) ∧ w' = w := by
  refine (row_calls F m nd nas a n cap c R 3 (fun i => if i = 0 then s0 else if i = 1 then s1 else s2) w (fun i hi => ?_) hn (by omega) hcap hA hT (fun i hi => ?_)).mono ?_
  · rcases (show i = 0 ∨ i = 1 ∨ i = 2 by omega) with rfl | rfl | rfl
    · exact b0
    · exact b1
    · exact b2
  · rcases (show i = 0 ∨ i = 1 ∨ i = 2 by omega) with rfl | rfl | rfl
    · exact h0
    · exact h1
    · exact h2
  · rintro e w' ⟨rfl, rfl⟩
    refine ⟨ret_bool ?_, rfl⟩
    rw [Bool.eq_iff_iff]
    simp only [Bool.and_eq_true, allB_true]
    constructor
    · rintro ⟨h, k⟩
      exact ⟨⟨⟨h, k 0 (by omega) (by omega)⟩, k 1 (by omega) (by omega)⟩, k 2 (by omega) (by omega)⟩
    · rintro ⟨⟨⟨h, k0⟩, k1⟩, k2⟩
      refine ⟨h, fun i _ hi => ?_⟩
      rcases (show i = 0 ∨ i = 1 ∨ i = 2 by omega) with rfl | rfl | rfl
      · exact k0
      · exact k1
      · exact k2
theorem row4_calls (F m : Nat) (nd : Nat → ND) (nas : Nat → NA) (a : Option Addr) (n cap : Nat) (c : Nat → Int) (R : Nat) (s0 s1 s2 s3 : Nat) (w : World) (b0 : s0 < 18446744073709551616) (b1 : s1 < 18446744073709551616) (b2 : s2 < 18446744073709551616) (b3 : s3 < 18446744073709551616) (hn : n ≤ 1048576) (hcap : n ≤ cap) (hA : AH w F m nd nas) (hT : IntsAt 0 w a n c) (h0 : w.cell? ⟨R, 0, none⟩ = some (.int .u64 (s0 : Int))) (h1 : w.cell? ⟨R, 1, none⟩ = some (.int .u64 (s1 : Int))) (h2 : w.cell? ⟨R, 2, none⟩ = some (.int .u64 (s2 : Int))) (h3 : w.cell? ⟨R, 3, none⟩ = some (.int .u64 (s3 : Int))) :
    Calls Tryz.prog 147 #[.pointer (some ⟨F, 0, none⟩), .slice a n cap, .slice (some ⟨R, 0, none⟩) 4 4] w fun e w' => e = .returned (.bool ((n : Int) == 4 && kidS s0 nd m (c 0) && kidS s1 nd m (c 1) && kidS s2 nd m (c 2) && kidS s3 nd m (c 3))) ∧ w' = w := by
  refine (row_calls F m nd nas a n cap c R 4 (fun i => if i = 0 then s0 else if i = 1 then s1 else if i = 2 then s2 else s3) w (fun i hi => ?_) hn (by omega) hcap hA hT (fun i hi => ?_)).mono ?_
  · rcases (show i = 0 ∨ i = 1 ∨ i = 2 ∨ i = 3 by omega) with rfl | rfl | rfl | rfl
    · exact b0
    · exact b1
    · exact b2
    · exact b3
  · rcases (show i = 0 ∨ i = 1 ∨ i = 2 ∨ i = 3 by omega) with rfl | rfl | rfl | rfl
    · exact h0
    · exact h1
    · exact h2
    · exact h3
  · rintro e w' ⟨rfl, rfl⟩
    refine ⟨ret_bool ?_, rfl⟩
    rw [Bool.eq_iff_iff]
    simp only [Bool.and_eq_true, allB_true]
    constructor
    · rintro ⟨h, k⟩
      exact ⟨⟨⟨⟨h, k 0 (by omega) (by omega)⟩, k 1 (by omega) (by omega)⟩, k 2 (by omega) (by omega)⟩, k 3 (by omega) (by omega)⟩
    · rintro ⟨⟨⟨⟨h, k0⟩, k1⟩, k2⟩, k3⟩
      refine ⟨h, fun i _ hi => ?_⟩
      rcases (show i = 0 ∨ i = 1 ∨ i = 2 ∨ i = 3 by omega) with rfl | rfl | rfl | rfl
      · exact k0
      · exact k1
      · exact k2
      · exact k3
end Go.Proofs.YtcpjnddkibbddaaGreat

/-! The program's check of a unit: a choice's form. -/
namespace Go.Proofs.YtcpjnddkibbddaaGreat
open Go.RowKit
attribute [local go_sem] run_store_float
attribute [local go_sem ↓] Go.wp_at_zero Go.wp_at_succ

/-- the sets of a choice -/
def chS (i : Nat) : Nat := if i = 0 then 549754765312 else if i = 1 then 2 else 34
theorem chS_lt (i : Nat) : chS i < 18446744073709551616 := by unfold chS; split <;> (try split) <;> decide
theorem ch2 {nd : Nat → ND} {m : Nat} {c : Nat → Int} : allB (fun i => kidS (chS i) nd m (c i)) 0 2 = (kidS sEx nd m (c 0) && kidS sBl nd m (c 1)) := by
  rw [Bool.eq_iff_iff, allB_true, Bool.and_eq_true]
  exact ⟨fun h => ⟨h 0 (by omega) (by omega), h 1 (by omega) (by omega)⟩, fun h i _ hi => by
    rcases (show i = 0 ∨ i = 1 by omega) with rfl | rfl
    · exact h.1
    · exact h.2⟩
theorem ch3 {nd : Nat → ND} {m : Nat} {c : Nat → Int} : allB (fun i => kidS (chS i) nd m (c i)) 0 3 = (kidS sEx nd m (c 0) && kidS sBl nd m (c 1) && kidS sEl nd m (c 2)) := by
  rw [Bool.eq_iff_iff, allB_true, Bool.and_eq_true, Bool.and_eq_true]
  exact ⟨fun h => ⟨⟨h 0 (by omega) (by omega), h 1 (by omega) (by omega)⟩, h 2 (by omega) (by omega)⟩, fun h i _ hi => by
    rcases (show i = 0 ∨ i = 1 ∨ i = 2 by omega) with rfl | rfl | rfl
    · exact h.1.1
    · exact h.1.2
    · exact h.2⟩
def chR (nd : Nat → ND) (m : Nat) (c : Nat → Int) (n j : Nat) : Bool := (n : Int) == j && allB (fun i => kidS (chS i) nd m (c i)) 0 j
theorem rowCh_calls (F m : Nat) (nd : Nat → ND) (nas : Nat → NA) (a : Option Addr) (n cap : Nat) (c : Nat → Int) (R j : Nat) (w : World) (hn : n ≤ 1048576) (hj : j ≤ 4) (hcap : n ≤ cap) (hA : AH w F m nd nas) (hT : IntsAt 0 w a n c) (hR : ∀ i, i < j → w.cell? ⟨R, i, none⟩ = some (.int .u64 (chS i : Int))) :
    Calls Tryz.prog 147 #[.pointer (some ⟨F, 0, none⟩), .slice a n cap, .slice (some ⟨R, 0, none⟩) j j] w fun e w' => e = .returned (.bool (chR nd m c n j)) ∧ w' = w := row_calls F m nd nas a n cap c R j chS w (fun i _ => chS_lt i) hn hj hcap hA hT hR
set_option maxRecDepth 100000 in
set_option maxHeartbeats 2000000 in
theorem fo_choice (F m : Nat) (nd : Nat → ND) (nas : Nat → NA) (w : World) (hA : AH w F m nd nas) (hN : NodeAt 0 w (nd m) (nas m)) (hs : (nd m).sm) (hcap : (nd m).kn ≤ (nas m).kc) :
    Calls Tryz.prog 90 #[.pointer (some ⟨F, 0, none⟩), nodeV (nd m) (nas m)] w fun e w' => e = .returned (.bool (uoB (nd m) false false false false false true && (((((nd m).kn : Int) == 2 && kidS sEx nd m ((nd m).c 0) && kidS sBl nd m ((nd m).c 1)) || (((nd m).kn : Int) == 3 && kidS sEx nd m ((nd m).c 0) && kidS sBl nd m ((nd m).c 1) && kidS sEl nd m ((nd m).c 2)))))) ∧ Below w.heap.size w w' := by
  have HA : Hid (AH w F m nd nas) := hA
  have HN : Hid (NodeAt 0 w (nd m) (nas m)) := hN
  have hkn := hs.kn
  clear hA hN hs
  go_enter Tryz.func90, Tryz.ntmps90
  go_wp2_with (first | (go_at_call 145; refine (uo32_calls (nd m) (nas m) _).mono ?_; rintro e w2 ⟨rfl, hb2⟩; have HB2 : Hid (Below w.heap.size w w2) := below_call (below_alloc _ _) hb2; have n2 : w2.cell? ⟨w.heap.size, 2, none⟩ = some (.int .i64 (nd m).o) := (Has.made hb2).cell 2 rfl; have n3 : w2.cell? ⟨w.heap.size, 3, none⟩ = some (.int .i64 (nd m).n) := (Has.made hb2).cell 3 rfl; have n4 : w2.cell? ⟨w.heap.size, 4, none⟩ = some (.float .f64 (nd m).f) := (Has.made hb2).cell 4 rfl; have n5 : w2.cell? ⟨w.heap.size, 5, none⟩ = some (.string (nd m).s) := (Has.made hb2).cell 5 rfl; have n6 : w2.cell? ⟨w.heap.size, 6, none⟩ = some (.slice (nas m).ra (nd m).rn (nas m).rc) := (Has.made hb2).cell 6 rfl; have n7 : w2.cell? ⟨w.heap.size, 7, none⟩ = some (.slice (nas m).ka (nd m).kn (nas m).kc) := (Has.made hb2).cell 7 rfl; have hz2 : w.heap.size < w2.heap.size := (Has.made hb2).lt; clear hb2) | (go_at_call 147; refine (rowCh_calls F m nd nas _ _ _ (nd m).c _ _ _ (by omega) (by omega) hcap (by first | exact HA.out.below (below_a' HB2.out _) | exact HA.out.below (below_a' (below_a' HB2.out _) _)) (by first | exact RowN.below HN.out.2 (below_a' HB2.out _) | exact RowN.below HN.out.2 (below_a' (below_a' HB2.out _) _)) (fun i hi => by rcases i with _ | _ | _ | i <;> first | (simp [chS]; done) | omega)).mono ?_; rintro e w1 ⟨rfl, rfl⟩))
  all_goals go_ret
  all_goals refine ⟨ret_bool ?_, by first | exact HB2.out | exact below_a' HB2.out _ | exact below_a' (below_a' HB2.out _) _⟩
  all_goals first | (simp_all [chR, ch2, ch3, Bool.and_assoc]; done) | trace_state
end Go.Proofs.YtcpjnddkibbddaaGreat

namespace Go.Proofs.YtcpjnddkibbddaaGreat.Fl
open Ieee

theorem pow_split {a b c : Nat} (h : a + b = c) : 2 ^ c = 2 ^ a * 2 ^ b := by rw [← h, Nat.pow_add]

theorem log2_mul_pow {m : Nat} (hm : m ≠ 0) (k : Nat) : (m * 2 ^ k).log2 = m.log2 + k := by
  have hk : 0 < 2 ^ k := Nat.two_pow_pos k
  have h0 : m * 2 ^ k ≠ 0 := by
    intro h; rcases Nat.mul_eq_zero.1 h with h | h
    · exact hm h
    · omega
  rw [Nat.log2_eq_iff h0]
  have h1 := Nat.log2_self_le hm
  have h2 := @Nat.lt_log2_self m
  constructor
  · rw [Nat.pow_add]; exact Nat.mul_le_mul_right _ h1
  · rw [show m.log2 + k + 1 = (m.log2 + 1) + k by omega, Nat.pow_add]
    exact Nat.mul_lt_mul_of_pos_right h2 hk

/-- cut without the guard on the number of digits -/
theorem cut_even (neg : Bool) (n d : Nat) :
    Toward.even.cut neg n d = n / 2 ^ d + (decide (2 ^ d < 2 * (n % 2 ^ d)) || (2 ^ d == 2 * (n % 2 ^ d) && n / 2 ^ d % 2 == 1)).toNat := by
  unfold Toward.cut
  simp only [Nat.one_shiftLeft]
  by_cases h : d ≤ n.log2 + 2
  · rw [Nat.min_eq_left h]
  · have h' : n.log2 + 2 ≤ d := by omega
    rw [Nat.min_eq_right h']
    have a := @Nat.lt_log2_self n
    have b : 2 ^ (n.log2 + 2) = 2 * 2 ^ (n.log2 + 1) := by rw [Nat.pow_succ]; omega
    have c : 2 ^ (n.log2 + 2) ≤ 2 ^ d := Nat.pow_le_pow_right (by omega) h'
    rw [Nat.div_eq_of_lt (by omega), Nat.mod_eq_of_lt (by omega), Nat.div_eq_of_lt (by omega), Nat.mod_eq_of_lt (by omega)]
    have e1 : decide (2 ^ (n.log2 + 2) < 2 * n) = false := by simp; omega
    have e2 : decide (2 ^ d < 2 * (n % 2 ^ d)) = false := by rw [Nat.mod_eq_of_lt (by omega)]; simp; omega
    simp [e1, e2]

theorem cut_down (neg : Bool) (n d : Nat) :
    Toward.down.cut neg n d = n / 2 ^ d + (neg && n % 2 ^ d != 0).toNat := by
  unfold Toward.cut
  simp only [Nat.one_shiftLeft]
  by_cases h : d ≤ n.log2 + 2
  · rw [Nat.min_eq_left h]
  · have h' : n.log2 + 2 ≤ d := by omega
    rw [Nat.min_eq_right h']
    have a := @Nat.lt_log2_self n
    have b : 2 ^ (n.log2 + 2) = 2 * 2 ^ (n.log2 + 1) := by rw [Nat.pow_succ]; omega
    have c : 2 ^ (n.log2 + 2) ≤ 2 ^ d := Nat.pow_le_pow_right (by omega) h'
    rw [Nat.div_eq_of_lt (by omega), Nat.mod_eq_of_lt (by omega), Nat.div_eq_of_lt (by omega), Nat.mod_eq_of_lt (by omega)]

theorem cut_zero (neg : Bool) (n d : Nat) :
    Toward.zero.cut neg n d = n / 2 ^ d := by
  unfold Toward.cut
  simp only [Nat.one_shiftLeft]
  by_cases h : d ≤ n.log2 + 2
  · rw [Nat.min_eq_left h]; simp
  · have h' : n.log2 + 2 ≤ d := by omega
    rw [Nat.min_eq_right h']
    have a := @Nat.lt_log2_self n
    have b : 2 ^ (n.log2 + 2) = 2 * 2 ^ (n.log2 + 1) := by rw [Nat.pow_succ]; omega
    have c : 2 ^ (n.log2 + 2) ≤ 2 ^ d := Nat.pow_le_pow_right (by omega) h'
    rw [Nat.div_eq_of_lt (by omega), Nat.div_eq_of_lt (by omega)]; simp

theorem cut_even_exact (neg : Bool) (n d : Nat) : Toward.even.cut neg (n * 2 ^ d) d = n := by
  have := Nat.two_pow_pos d
  rw [cut_even, Nat.mul_div_cancel _ this, Nat.mul_mod_left]
  have e1 : decide (2 ^ d < 2 * 0) = false := by simp
  have e2 : (2 ^ d == 2 * 0) = false := by simp
  rw [e1, e2]; simp

theorem cut_even_zero (neg : Bool) (n : Nat) : Toward.even.cut neg n 0 = n := by
  have := cut_even_exact neg n 0
  simpa using this

theorem cut_even_shift (neg : Bool) (n d k : Nat) : Toward.even.cut neg (n * 2 ^ k) (d + k) = Toward.even.cut neg n d := by
  have hk := Nat.two_pow_pos k
  rw [cut_even, cut_even, Nat.pow_add, Nat.mul_div_mul_right _ _ hk, Nat.mul_mod_mul_right]
  have e1 : decide (2 ^ d * 2 ^ k < 2 * (n % 2 ^ d * 2 ^ k)) = decide (2 ^ d < 2 * (n % 2 ^ d)) := by
    rw [← Nat.mul_assoc]
    rw [decide_eq_decide]
    exact Nat.mul_lt_mul_right hk
  have e2 : (2 ^ d * 2 ^ k == 2 * (n % 2 ^ d * 2 ^ k)) = (2 ^ d == 2 * (n % 2 ^ d)) := by
    rw [← Nat.mul_assoc, Bool.eq_iff_iff]
    simp only [beq_iff_eq]
    exact Nat.mul_left_inj (by omega)
  rw [e1, e2]

theorem lp : double.leastPlace = -1074 := by decide
theorem bn : double.binade = 2 ^ 52 := rfl
theorem fb : double.fractionBits = 52 := rfl

/-- The word of a signed magnitude in units of the least place. -/
def enc (neg : Bool) (M : Nat) : Nat := double.nearest neg M (-1074)

theorem nearest_shift (neg : Bool) (m : Nat) (p : Int) (k : Nat) : double.nearest neg (m * 2 ^ k) (p - k) = double.nearest neg m p := by
  by_cases hm : m = 0
  · subst hm; simp [Format.nearest]
  have hk := Nat.two_pow_pos k
  have h0 : m * 2 ^ k ≠ 0 := by
    intro h; rcases Nat.mul_eq_zero.1 h with h | h
    · exact hm h
    · omega
  unfold Format.nearest
  rw [if_neg hm, if_neg h0, log2_mul_pow hm]
  have e : p - (k : Int) + ((m.log2 + k : Nat) : Int) - (double.fractionBits : Int) = p + (m.log2 : Int) - (double.fractionBits : Int) := by omega
  simp only [e]
  generalize max (p + (m.log2 : Int) - (double.fractionBits : Int)) double.leastPlace = L
  have key : Toward.even.cut neg ((m * 2 ^ k) <<< (p - k - L).toNat) (L - (p - k)).toNat = Toward.even.cut neg (m <<< (p - L).toNat) (L - p).toNat := by
    simp only [Nat.shiftLeft_eq]
    by_cases c1 : L ≤ p - k
    · rw [show (L - (p - k)).toNat = 0 by omega, show (L - p).toNat = 0 by omega, cut_even_zero, cut_even_zero, Nat.mul_assoc, ← Nat.pow_add]
      congr 2; omega
    · by_cases c2 : L ≤ p
      · rw [show (L - p).toNat = 0 by omega, cut_even_zero, show (p - k - L).toNat = 0 by omega, Nat.pow_zero, Nat.mul_one]
        rw [pow_split (show (p - L).toNat + (L - (p - k)).toNat = k by omega), ← Nat.mul_assoc, cut_even_exact]
      · rw [show (p - k - L).toNat = 0 by omega, show (p - L).toNat = 0 by omega, Nat.pow_zero, Nat.mul_one, Nat.mul_one]
        rw [show (L - (p - k)).toNat = (L - p).toNat + k by omega, cut_even_shift]
  rw [key]

theorem nearest_enc (neg : Bool) (m : Nat) (p : Int) (hp : -1074 ≤ p) : double.nearest neg m p = enc neg (m * 2 ^ (p + 1074).toNat) := by
  unfold enc
  rw [← nearest_shift neg m p (p + 1074).toNat]
  congr 1
  omega

theorem enc_zero (neg : Bool) : enc neg 0 = double.word neg 0 := by simp [enc, Format.nearest]

theorem enc_eq (neg : Bool) (M : Nat) : enc neg M = double.word neg (min ((M.log2 - 52) * 2 ^ 52 + Toward.even.cut neg M (M.log2 - 52)) double.infRung) := by
  by_cases hM : M = 0
  · subst hM
    rw [enc_zero]
    have : (0 : Nat).log2 - 52 = 0 := by decide
    rw [this, cut_even_zero]
    simp
  · unfold enc Format.nearest
    rw [if_neg hM, lp, fb, bn]
    have e : max (-1074 + (M.log2 : Int) - ((52 : Nat) : Int)) (-1074) = -1074 + ((M.log2 - 52 : Nat) : Int) := by omega
    simp only [e]
    rw [show (-1074 + ((M.log2 - 52 : Nat) : Int) - -1074).toNat = M.log2 - 52 by omega]
    rw [show (-1074 - (-1074 + ((M.log2 - 52 : Nat) : Int))).toNat = 0 by omega]
    simp

theorem infR : double.infRung = 2047 * 2 ^ 52 := by decide
theorem sw : double.signWeight = 2 ^ 63 := rfl

/-- representable magnitudes -/
def rep (M : Nat) : Prop := ∃ q a, q < 2 ^ 53 ∧ a ≤ 2045 ∧ M = q * 2 ^ a

theorem log2_lt53 {q : Nat} (h : q < 2 ^ 53) : q.log2 ≤ 52 := by
  by_cases h0 : q = 0
  · subst h0; decide
  · have := (Nat.log2_lt (n := q) (k := 53) h0).2 h; omega

theorem rep_form {M : Nat} (h : rep M) : ∃ m, M = m * 2 ^ (M.log2 - 52) ∧ m < 2 ^ 53 ∧ M.log2 - 52 ≤ 2045 ∧ (M.log2 - 52 = 0 ∨ 2 ^ 52 ≤ m) := by
  obtain ⟨q, a, hq, ha, rfl⟩ := h
  by_cases h0 : q = 0
  · subst h0; exact ⟨0, by simp, by omega, by simp [show (0:Nat).log2 = 0 by decide], Or.inl (by simp [show (0:Nat).log2 = 0 by decide])⟩
  · have hl := log2_lt53 hq
    rw [log2_mul_pow h0]
    refine ⟨q * 2 ^ (a - (q.log2 + a - 52)), ?_, ?_, by omega, ?_⟩
    · rw [Nat.mul_assoc, ← Nat.pow_add]; congr 2; omega
    · have h2 := @Nat.lt_log2_self q
      have : 2 ^ (q.log2 + 1) * 2 ^ (a - (q.log2 + a - 52)) ≤ 2 ^ 53 := by rw [← Nat.pow_add]; exact Nat.pow_le_pow_right (by omega) (by omega)
      exact Nat.lt_of_lt_of_le (Nat.mul_lt_mul_of_pos_right h2 (Nat.two_pow_pos _)) this
    · by_cases hz : q.log2 + a - 52 = 0
      · exact Or.inl hz
      · right
        have h1 := Nat.log2_self_le h0
        have : 2 ^ 52 ≤ 2 ^ q.log2 * 2 ^ (a - (q.log2 + a - 52)) := by rw [← Nat.pow_add]; exact Nat.pow_le_pow_right (by omega) (by omega)
        exact Nat.le_trans this (Nat.mul_le_mul_right _ h1)

theorem word_neg (neg : Bool) {r : Nat} (h : r < 2 ^ 63) : (double.word neg r / double.signWeight % 2 == 1) = neg ∧ double.word neg r % double.signWeight = r := by
  rw [sw]
  cases neg
  · simp only [Format.word, Bool.false_eq_true, if_false]
    rw [Nat.div_eq_of_lt h, Nat.mod_eq_of_lt h]
    exact ⟨rfl, rfl⟩
  · simp only [Format.word, if_true, sw]
    have e1 : (2 ^ 63 + r) / 2 ^ 63 = 1 := by omega
    have e2 : (2 ^ 63 + r) % 2 ^ 63 = r := by omega
    rw [e1, e2]; exact ⟨rfl, rfl⟩

theorem read_word (neg : Bool) {r : Nat} (h : r < 2 ^ 63) : double.read (double.word neg r) =
    (if r < 2 ^ 52 then .number neg r (-1074) else if r < 2047 * 2 ^ 52 then .number neg (2 ^ 52 + r % 2 ^ 52) (-1074 + (r / 2 ^ 52 - 1 : Nat)) else if r = 2047 * 2 ^ 52 then .infinity neg else .nan neg (r - 2047 * 2 ^ 52)) := by
  obtain ⟨h1, h2⟩ := word_neg neg h
  unfold Format.read
  simp only [h1, h2, lp, bn, infR]

def Fin3 (x : Nat) (s : Bool) (M : Nat) : Prop := ∃ m i, double.read x = .number s m i ∧ -1074 ≤ i ∧ m * 2 ^ (i + 1074).toNat = M

theorem read_enc (neg : Bool) {M : Nat} (h : rep M) : Fin3 (enc neg M) neg M := by
  obtain ⟨m, hM, hm, hle, hor⟩ := rep_form h
  rw [enc_eq]
  generalize he : M.log2 - 52 = e at *
  subst hM
  rw [cut_even_exact, infR]
  have hlt : e * 2 ^ 52 + m < 2047 * 2 ^ 52 := by omega
  rw [Nat.min_eq_left (by omega)]
  unfold Fin3
  rw [read_word neg (by omega)]
  by_cases hs : e * 2 ^ 52 + m < 2 ^ 52
  · have he0 : e = 0 := by omega
    subst he0
    rw [if_pos hs]
    exact ⟨_, _, rfl, by omega, by simp⟩
  · rw [if_neg hs, if_pos hlt]
    have hm2 : 2 ^ 52 ≤ m := by
      rcases hor with h | h
      · subst h; omega
      · exact h
    have d1 : (e * 2 ^ 52 + m) / 2 ^ 52 = e + 1 := by omega
    have d2 : (e * 2 ^ 52 + m) % 2 ^ 52 = m - 2 ^ 52 := by omega
    rw [d1, d2]
    refine ⟨_, _, rfl, by omega, ?_⟩
    rw [show (-1074 + ((e + 1 - 1 : Nat) : Int) + 1074).toNat = e by omega, show 2 ^ 52 + (m - 2 ^ 52) = m by omega]

/-- A word below two to the 64: sign and rung. -/
theorem split_word {x : Nat} (hx : x < 2 ^ 64) : ∃ neg r, r < 2 ^ 63 ∧ x = double.word neg r := by
  by_cases h : x < 2 ^ 63
  · exact ⟨false, x, h, by simp [Format.word]⟩
  · exact ⟨true, x - 2 ^ 63, by omega, by simp [Format.word, sw]; omega⟩

theorem sort3 {x : Nat} (hx : x < 2 ^ 64) : (∃ s M, Fin3 x s M ∧ rep M ∧ x = enc s M) ∨ (∃ s, double.read x = .infinity s ∧ x = double.word s double.infRung) ∨ (∃ s t, double.read x = .nan s t) := by
  obtain ⟨neg, r, hr, rfl⟩ := split_word hx
  have hrd := read_word neg hr
  by_cases h1 : r < 2 ^ 52
  · rw [if_pos h1] at hrd
    refine .inl ⟨neg, r, ⟨_, _, hrd, by omega, by simp⟩, ⟨r, 0, by omega, by omega, by simp⟩, ?_⟩
    rw [enc_eq]
    have : r.log2 - 52 = 0 := by have := log2_lt53 (q := r) (by omega); omega
    rw [this, cut_even_zero, infR, Nat.min_eq_left (by omega)]
    simp
  · rw [if_neg h1] at hrd
    by_cases h2 : r < 2047 * 2 ^ 52
    · rw [if_pos h2] at hrd
      have e1 : (-1074 + ((r / 2 ^ 52 - 1 : Nat) : Int) + 1074).toNat = r / 2 ^ 52 - 1 := by omega
      refine .inl ⟨neg, (2 ^ 52 + r % 2 ^ 52) * 2 ^ (r / 2 ^ 52 - 1), ⟨_, _, hrd, by omega, by rw [e1]⟩, ⟨2 ^ 52 + r % 2 ^ 52, r / 2 ^ 52 - 1, by omega, by omega, rfl⟩, ?_⟩
      rw [enc_eq]
      have hl : (2 ^ 52 + r % 2 ^ 52).log2 = 52 := by rw [Nat.log2_eq_iff (by omega)]; omega
      rw [log2_mul_pow (by omega), hl, show 52 + (r / 2 ^ 52 - 1) - 52 = r / 2 ^ 52 - 1 by omega, cut_even_exact, infR]
      have : (r / 2 ^ 52 - 1) * 2 ^ 52 + (2 ^ 52 + r % 2 ^ 52) = r := by omega
      rw [this, Nat.min_eq_left (by omega)]
    · rw [if_neg h2] at hrd
      by_cases h3 : r = 2047 * 2 ^ 52
      · rw [if_pos h3] at hrd
        exact .inr (.inl ⟨_, hrd, by rw [infR, h3]⟩)
      · rw [if_neg h3] at hrd
        exact .inr (.inr ⟨_, _, hrd⟩)


def sv (s : Bool) (M : Nat) : Int := if s then -(M : Int) else (M : Int)

theorem signed_scale (s : Bool) (m u v : Nat) : signed s m u * ((2 ^ v : Nat) : Int) = sv s (m * 2 ^ (u + v)) := by
  unfold signed sv
  rw [Nat.shiftLeft_eq, Nat.pow_add, ← Nat.mul_assoc]
  cases s
  · simp only [Bool.false_eq_true, if_false]; rw [Int.natCast_mul (m * 2 ^ u)]
  · simp only [if_true]; rw [Int.natCast_mul (m * 2 ^ u), Int.neg_mul]

theorem compare_scale (a b : Int) (c : Nat) (hc : 0 < c) : compare (a * (c : Int)) (b * (c : Int)) = compare a b := by
  have h : (0 : Int) < (c : Int) := by omega
  rcases Int.lt_trichotomy a b with h1 | h1 | h1
  · rw [Int.compare_eq_lt.2 h1, Int.compare_eq_lt.2 ((Int.mul_lt_mul_right h).2 h1)]
  · subst h1; rw [Int.compare_eq_eq.2 rfl, Int.compare_eq_eq.2 rfl]
  · rw [Int.compare_eq_gt.2 h1, Int.compare_eq_gt.2 ((Int.mul_lt_mul_right h).2 h1)]

theorem order_fin {x y : Nat} {s t : Bool} {M N : Nat} (hx : Fin3 x s M) (hy : Fin3 y t N) : double.order x y = some (compare (sv s M) (sv t N)) := by
  obtain ⟨m, i, h1, h2, h3⟩ := hx
  obtain ⟨n, j, g1, g2, g3⟩ := hy
  unfold Format.order
  rw [h1, g1]
  unfold Datum.order
  simp only
  rw [← compare_scale _ _ (2 ^ (min i j + 1074).toNat) (Nat.two_pow_pos _), signed_scale, signed_scale]
  rw [show (i - min i j).toNat + (min i j + 1074).toNat = (i + 1074).toNat by omega, show (j - min i j).toNat + (min i j + 1074).toNat = (j + 1074).toNat by omega, h3, g3]

theorem enc_inj_of {x y : Nat} {s : Bool} {M : Nat} (hx : x = enc s M) (hy : y = enc s M) : x = y := by rw [hx, hy]

theorem sv_inj {s t : Bool} {M N : Nat} (h : sv s M = sv t N) (h0 : M ≠ 0) : s = t ∧ M = N := by
  unfold sv at h
  cases s <;> cases t <;> simp only [if_true, if_false, Bool.false_eq_true] at h
  · exact ⟨rfl, by omega⟩
  · exfalso; omega
  · exfalso; omega
  · exact ⟨rfl, by omega⟩

theorem write_number (s : Bool) (m : Nat) : double.write (.number s m 0) = enc s (m * 2 ^ 1074) := by
  show double.nearest s m 0 = _
  rw [nearest_enc s m 0 (by omega), show ((0 : Int) + 1074).toNat = 1074 by omega]

theorem integral_down {x : Nat} {s : Bool} {M : Nat} (hx : Fin3 x s M) :
    double.write ((double.read x).integral .down) = enc s ((M / 2 ^ 1074 + (s && M % 2 ^ 1074 != 0).toNat) * 2 ^ 1074) := by
  obtain ⟨m, i, h1, h2, h3⟩ := hx
  rw [h1]
  unfold Datum.integral
  simp only
  rw [write_number, cut_down]
  have e : (m <<< i.toNat) / 2 ^ (-i).toNat = M / 2 ^ 1074 ∧ ((m <<< i.toNat) % 2 ^ (-i).toNat != 0) = (M % 2 ^ 1074 != 0) := by
    subst h3
    rw [Nat.shiftLeft_eq]
    by_cases hi : 0 ≤ i
    · rw [show (-i).toNat = 0 by omega, pow_split (show i.toNat + 1074 = (i + 1074).toNat by omega), ← Nat.mul_assoc, Nat.mul_div_cancel _ (Nat.two_pow_pos 1074), Nat.mul_mod_left]
      simp [Nat.mod_one]
    · have hp := Nat.two_pow_pos (i + 1074).toNat
      rw [show i.toNat = 0 by omega, Nat.pow_zero, Nat.mul_one]
      rw [pow_split (show (-i).toNat + (i + 1074).toNat = 1074 by omega), Nat.mul_div_mul_right _ _ hp, Nat.mul_mod_mul_right]
      refine ⟨rfl, ?_⟩
      rw [Bool.eq_iff_iff]
      simp only [bne_iff_ne, ne_eq, Nat.mul_eq_zero]
      omega
  rw [e.1, e.2]

theorem toInt_zero {x : Nat} {s : Bool} {M : Nat} (hx : Fin3 x s M) :
    (double.read x).toInt .zero = some (sv s (M / 2 ^ 1074)) := by
  obtain ⟨m, i, h1, h2, h3⟩ := hx
  rw [h1]
  unfold Datum.toInt Datum.integral
  simp only
  rw [cut_zero]
  have e : (m <<< i.toNat) / 2 ^ (-i).toNat = M / 2 ^ 1074 := by
    subst h3
    rw [Nat.shiftLeft_eq]
    by_cases hi : 0 ≤ i
    · rw [show (-i).toNat = 0 by omega, pow_split (show i.toNat + 1074 = (i + 1074).toNat by omega), ← Nat.mul_assoc, Nat.mul_div_cancel _ (Nat.two_pow_pos 1074)]
      simp
    · have hp := Nat.two_pow_pos (i + 1074).toNat
      rw [show i.toNat = 0 by omega, Nat.pow_zero, Nat.mul_one]
      rw [pow_split (show (-i).toNat + (i + 1074).toNat = 1074 by omega), Nat.mul_div_mul_right _ _ hp]
  rw [e]
  generalize M / 2 ^ 1074 = q
  unfold signed sv
  simp

/-- a whole number made a float -/
theorem nearest_int (n : Int) : double.write (.number (n < 0) n.natAbs 0) = enc (decide (n < 0)) (n.natAbs * 2 ^ 1074) := write_number _ _

theorem sub_fin {x y : Nat} {s t : Bool} {M N : Nat} (hx : Fin3 x s M) (hy : Fin3 y t N) (h : sv s M - sv t N ≠ 0) :
    double.sub x y = some (enc (decide (sv s M - sv t N < 0)) (sv s M - sv t N).natAbs) := by
  obtain ⟨m, i, h1, h2, h3⟩ := hx
  obtain ⟨n, j, g1, g2, g3⟩ := hy
  unfold Format.sub
  rw [h1, g1]
  unfold Datum.opposite Datum.sum
  simp only [Option.map_some]
  generalize hT : signed s m (i - min i j).toNat + signed (!t) n (j - min i j).toNat = T
  have hs : T * ((2 ^ (min i j + 1074).toNat : Nat) : Int) = sv s M - sv t N := by
    rw [← hT, Int.add_mul, signed_scale, signed_scale]
    rw [show (i - min i j).toNat + (min i j + 1074).toNat = (i + 1074).toNat by omega, show (j - min i j).toNat + (min i j + 1074).toNat = (j + 1074).toNat by omega, h3, g3]
    unfold sv; cases t <;> simp <;> omega
  have hp : (0 : Int) < ((2 ^ (min i j + 1074).toNat : Nat) : Int) := by have := Nat.two_pow_pos (min i j + 1074).toNat; omega
  have hT0 : T ≠ 0 := by intro h0; rw [h0, Int.zero_mul] at hs; exact h hs.symm
  rw [if_neg hT0]
  unfold Format.write
  simp only
  rw [nearest_enc _ _ _ (by omega), ← hs, Int.natAbs_mul, Int.natAbs_natCast]
  congr 2
  rw [decide_eq_decide]
  constructor
  · intro hl; exact Int.mul_neg_of_neg_of_pos hl hp
  · intro hl
    refine Int.not_le.1 fun hc => ?_
    have := Int.mul_nonneg hc (Int.le_of_lt hp)
    omega

theorem rep_trunc {M : Nat} (h : rep M) : rep (M / 2 ^ 1074 * 2 ^ 1074) := by
  obtain ⟨q, a, hq, ha, rfl⟩ := h
  by_cases c : 1074 ≤ a
  · refine ⟨q, a, hq, ha, ?_⟩
    rw [pow_split (show a - 1074 + 1074 = a by omega), ← Nat.mul_assoc, Nat.mul_div_cancel _ (Nat.two_pow_pos 1074)]
  · refine ⟨q / 2 ^ (1074 - a), 1074, ?_, by omega, ?_⟩
    · exact Nat.lt_of_le_of_lt (Nat.div_le_self _ _) hq
    · congr 1
      rw [pow_split (show 1074 - a + a = 1074 by omega), Nat.mul_div_mul_right _ _ (Nat.two_pow_pos a)]

/-- where something is left over, the whole part is small -/
theorem whole_small {M : Nat} (h : rep M) (hm : M % 2 ^ 1074 ≠ 0) : M / 2 ^ 1074 < 2 ^ 52 := by
  obtain ⟨q, a, hq, ha, rfl⟩ := h
  by_cases c : 1074 ≤ a
  · rw [pow_split (show a - 1074 + 1074 = a by omega), ← Nat.mul_assoc, Nat.mul_mod_left] at hm
    exact absurd rfl hm
  · rw [pow_split (show 1074 - a + a = 1074 by omega), Nat.mul_div_mul_right _ _ (Nat.two_pow_pos a)]
    have : 2 ^ 1 ≤ 2 ^ (1074 - a) := Nat.pow_le_pow_right (by omega) (by omega)
    have h2 : q / 2 ^ (1074 - a) ≤ q / 2 := Nat.div_le_div_left this (by omega)
    omega

theorem rep_int {q : Nat} (h : q < 2 ^ 53) : rep (q * 2 ^ 1074) := ⟨q, 1074, h, by omega, rfl⟩

end Go.Proofs.YtcpjnddkibbddaaGreat.Fl
