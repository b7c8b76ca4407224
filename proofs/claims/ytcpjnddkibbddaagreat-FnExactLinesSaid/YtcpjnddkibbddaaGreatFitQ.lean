import Derived.Test.YtcpjnddkibbddaaGreatFiA
/-! The form of a node: the program's and the specification's are one. Plain. -/
namespace Go.Proofs.YtcpjnddkibbddaaGreat

/-- all kids stand ahead -/
def KR (nd : Nat → ND) (m : Nat) : Prop := ∀ i, i < (nd m).kn → 0 ≤ (nd m).c i ∧ (nd m).c i < m
theorem kidS_rng {s : Nat} {nd : Nat → ND} {m : Nat} {c : Int} (h : kidS s nd m c = true) : 0 ≤ c ∧ c < m := by
  unfold kidS at h
  simp at h
  exact h.1
theorem kr_all {s : Nat} {p : Int → Bool} (hs : ∀ k, setB s k = p k) (h0 : p 0 = false) {nd : Nat → ND} {m : Nat} : allS s nd m 0 (nd m).kn = true ↔ KR nd m ∧ allB (fun i => p (kidK nd m i)) 0 (nd m).kn = true := by
  have e : allS s nd m 0 (nd m).kn = allB (fun i => p (kidK nd m i)) 0 (nd m).kn := allB_congr fun i _ hi => (kid_as hs h0 hi).symm
  rw [e]
  exact ⟨fun h => ⟨fun i hi => by
    have := allB_true.1 h i (Nat.zero_le _) hi
    simp only [kid_as hs h0 hi] at this
    exact kidS_rng this, h⟩, fun h => h.2⟩
theorem kr_exs {nd : Nat → ND} {m : Nat} : allS sEx nd m 0 (nd m).kn = true ↔ KR nd m ∧ exsB nd m 0 (nd m).kn = true := kr_all setEx (by decide)
theorem at_as {s : Nat} {p : Int → Bool} (hs : ∀ k, setB s k = p k) (h0 : p 0 = false) {nd : Nat → ND} {m i : Nat} (hi : i < (nd m).kn) : atS s nd m i = p (kidK nd m i) := (kid_as hs h0 hi).symm
theorem exs_one {nd : Nat → ND} {m : Nat} : exsB nd m 0 1 = exK (kidK nd m 0) := by
  rw [Bool.eq_iff_iff]
  unfold exsB
  rw [allB_true]
  exact ⟨fun h => h 0 (Nat.le_refl _) (by omega), fun h i _ hi => by obtain rfl : i = 0 := by omega
                                                                     exact h⟩
theorem exs_two {nd : Nat → ND} {m : Nat} : exsB nd m 0 2 = (exK (kidK nd m 0) && exK (kidK nd m 1)) := by
  rw [Bool.eq_iff_iff]
  unfold exsB
  rw [allB_true, Bool.and_eq_true]
  exact ⟨fun h => ⟨h 0 (Nat.le_refl _) (by omega), h 1 (by omega) (by omega)⟩, fun h i _ hi => by
    rcases (show i = 0 ∨ i = 1 by omega) with rfl | rfl
    · exact h.1
    · exact h.2⟩
theorem exs_three {nd : Nat → ND} {m : Nat} : exsB nd m 0 3 = (exK (kidK nd m 0) && exK (kidK nd m 1) && exK (kidK nd m 2)) := by
  rw [Bool.eq_iff_iff]
  unfold exsB
  rw [allB_true, Bool.and_eq_true, Bool.and_eq_true]
  exact ⟨fun h => ⟨⟨h 0 (Nat.le_refl _) (by omega), h 1 (by omega) (by omega)⟩, h 2 (by omega) (by omega)⟩, fun h i _ hi => by
    rcases (show i = 0 ∨ i = 1 ∨ i = 2 by omega) with rfl | rfl | rfl
    · exact h.1.1
    · exact h.1.2
    · exact h.2⟩
theorem kr0 {nd : Nat → ND} {m : Nat} (h : (nd m).kn = 0) : KR nd m := fun i hi => by omega
theorem kr1 {nd : Nat → ND} {m : Nat} {s : Nat} (h : (nd m).kn = 1) (h0 : atS s nd m 0 = true) : KR nd m := fun i hi => by
  obtain rfl : i = 0 := by omega
  exact kidS_rng h0
theorem kr2 {nd : Nat → ND} {m : Nat} {s t : Nat} (h : (nd m).kn = 2) (h0 : atS s nd m 0 = true) (h1 : atS t nd m 1 = true) : KR nd m := fun i hi => by
  rcases (show i = 0 ∨ i = 1 by omega) with rfl | rfl
  · exact kidS_rng h0
  · exact kidS_rng h1
theorem kr3 {nd : Nat → ND} {m : Nat} {s t u : Nat} (h : (nd m).kn = 3) (h0 : atS s nd m 0 = true) (h1 : atS t nd m 1 = true) (h2 : atS u nd m 2 = true) : KR nd m := fun i hi => by
  rcases (show i = 0 ∨ i = 1 ∨ i = 2 by omega) with rfl | rfl | rfl
  · exact kidS_rng h0
  · exact kidS_rng h1
  · exact kidS_rng h2
theorem kr4 {nd : Nat → ND} {m : Nat} {s t u v : Nat} (h : (nd m).kn = 4) (h0 : atS s nd m 0 = true) (h1 : atS t nd m 1 = true) (h2 : atS u nd m 2 = true) (h3 : atS v nd m 3 = true) : KR nd m := fun i hi => by
  rcases (show i = 0 ∨ i = 1 ∨ i = 2 ∨ i = 3 by omega) with rfl | rfl | rfl | rfl
  · exact kidS_rng h0
  · exact kidS_rng h1
  · exact kidS_rng h2
  · exact kidS_rng h3

theorem uo_tt (a : ND) (o n f s : Bool) : uoB a o n f s true true = bareB a o n f s a.rn := by simp [uoB, bareB, bareG]
theorem uo_ft (a : ND) (o n f s : Bool) : uoB a o n f s false true = bareB a o n f s 0 := by simp [uoB, bareB, bareG]
theorem uo_ff (a : ND) (o n f s : Bool) : uoB a o n f s false false = (((a.kn : Int) == 0) && bareB a o n f s 0) := by simp only [uoB, bareB, bareG, Bool.false_or, Bool.and_comm]
theorem uo_tf (a : ND) (o n f s : Bool) : uoB a o n f s true false = (((a.kn : Int) == 0) && bareB a o n f s a.rn) := by simp [uoB, bareB, bareG, Bool.and_comm]
theorem bare_at {a : ND} {o n f s : Bool} {r : Int} (h : (a.rn : Int) = r) : bareB a o n f s a.rn = bareB a o n f s r := by rw [h]
theorem blk_at {nd : Nat → ND} {m i : Nat} (h : (nd m).kn = i + 1) : blkB nd m = (kidK nd m i == 1) := by
  unfold blkB
  rw [h]
  simp

theorem and_and_iff {a b c d : Bool} {P : Prop} (h : b = true ↔ P ∧ c = true) (e : a = d) : (a && b) = true ↔ P ∧ (c && d) = true := by
  rw [e, Bool.and_eq_true, Bool.and_eq_true, h]
  exact ⟨fun ⟨x, y, z⟩ => ⟨y, z, x⟩, fun ⟨y, z, x⟩ => ⟨x, y, z⟩⟩

/-- statements -/
theorem fk_st {nd : Nat → ND} {m : Nat} (hs : stK (nd m).k = true) : fkB nd m = true ↔ KR nd m ∧ stB nd m = true := by
  have hr : 1 ≤ (nd m).k ∧ (nd m).k ≤ 14 := by unfold stK at hs; simp at hs; exact hs
  have hS := @kr_all sSt stK setSt (by decide) nd m
  have hE := @kr_exs nd m
  have aE := fun i hi => @at_as sEx exK setEx (by decide) nd m i hi
  have aB := fun i hi => @at_as sBl (· == 1) setBl (by decide) nd m i hi
  have aL := fun i hi => @at_as sEl (fun k => k == 1 || k == 5) setEl (by decide) nd m i hi
  have aC := fun i hi => @at_as sCa (· == 34) setCa (by decide) nd m i hi
  unfold fkB stB
  rcases (show (nd m).k = 1 ∨ (nd m).k = 2 ∨ (nd m).k = 3 ∨ (nd m).k = 4 ∨ (nd m).k = 5 ∨ (nd m).k = 6 ∨ (nd m).k = 7 ∨ (nd m).k = 8 ∨ (nd m).k = 9 ∨ (nd m).k = 10 ∨ (nd m).k = 11 ∨ (nd m).k = 12 ∨ (nd m).k = 13 ∨ (nd m).k = 14 by omega) with e | e | e | e | e | e | e | e | e | e | e | e | e | e <;> (simp only [e]; simp only [Int.reduceEq, if_true, if_false, or_false, or_true, uo_tt, uo_ft, uo_ff, Bool.and_eq_true, Bool.or_eq_true, beq_iff_eq, decide_eq_true_eq])
  · rw [hS]; grind
  · rw [hE]; grind
  · constructor
    · rintro ⟨⟨⟨⟨h1, h2⟩, h3⟩, h4⟩, h5⟩
      have hk : KR nd m := fun i hi => by
        by_cases c : i < (nd m).n.toNat
        · exact kidS_rng (allB_true.1 h4 i (Nat.zero_le _) c)
        · exact kidS_rng (allB_true.1 h5 i (by omega) hi)
      refine ⟨hk, ⟨⟨?_, ?_⟩, h1⟩, ?_⟩
      · simp; omega
      · exact allB_true.2 fun i _ hi => by
          have := allB_true.1 h4 i (Nat.zero_le _) hi
          rwa [← kid_as setTg (by decide) (by omega)] at this
      · exact allB_true.2 fun i h0 hi => by
          have := allB_true.1 h5 i h0 hi
          rwa [← kid_as setEx (by decide) (by omega)] at this
    · rintro ⟨_, ⟨⟨h1, h2⟩, h3⟩, h4⟩
      simp at h1
      refine ⟨⟨⟨⟨h3, by omega⟩, by omega⟩, ?_⟩, ?_⟩
      · exact allB_true.2 fun i _ hi => by
          have := allB_true.1 h2 i (Nat.zero_le _) hi
          rwa [kid_as setTg (by decide) (by omega)] at this
      · exact allB_true.2 fun i h0 hi => by
          have := allB_true.1 h4 i h0 hi
          rwa [kid_as setEx (by decide) (by omega)] at this
  case inr.inr.inr.inr.inr.inr.inl =>
    constructor
    · rintro ⟨⟨h1, h2⟩, ⟨⟨⟨h3, h4⟩, h5⟩, h6⟩, h7⟩
      have hk : (nd m).kn = 4 := by omega
      have := kr4 hk h4 h5 h6 h7
      rw [aE _ (by omega)] at h4 h5 h6
      rw [aB _ (by omega)] at h7
      rw [exs_three, blk_at hk, h4, h5, h6, h7, ← bare_at h2]
      exact ⟨this, ⟨⟨h3, rfl⟩, rfl⟩, h1⟩
    · rintro ⟨h0, ⟨⟨h1, h2⟩, h3⟩, h4⟩
      have hk : (nd m).kn = 4 := by omega
      have hb := bare_rn h4
      rw [exs_three] at h2
      rw [blk_at hk] at h3
      simp only [Bool.and_eq_true] at h2
      rw [aE _ (by omega), aE _ (by omega), aE _ (by omega), aB _ (by omega), bare_at hb, h2.1.1, h2.1.2, h2.2, h3]
      exact ⟨⟨h4, hb⟩, ⟨⟨⟨h1, rfl⟩, rfl⟩, rfl⟩, rfl⟩
  case inr.inr.inr.inr.inr.inr.inr.inr.inr.inr.inr.inl =>
    constructor
    · rintro ⟨⟨h1, h2⟩, ⟨h3, h4⟩, h5⟩
      have hk : (nd m).kn = 2 := by omega
      have := kr2 hk h4 h5
      rw [aB _ (by omega)] at h4 h5
      rw [blk_at hk, h5, ← bare_at h2]
      exact ⟨this, ⟨⟨h3, by simpa using h4⟩, rfl⟩, h1⟩
    · rintro ⟨h0, ⟨⟨h1, h2⟩, h3⟩, h4⟩
      have hk : (nd m).kn = 2 := by omega
      have hb := bare_rn h4
      rw [blk_at hk] at h3
      rw [aB _ (by omega), aB _ (by omega), bare_at hb, h2, h3]
      exact ⟨⟨h4, hb⟩, ⟨h1, rfl⟩, rfl⟩
  all_goals first | (rw [hE]; grind) | (rw [exs_one]; grind [kr1, kr2, kr3, kr0, blk_at]) | grind [kr0, kr1, kr2, blk_at]

/-- expressions -/
theorem fk_ex {nd : Nat → ND} {m : Nat} (hs : exK (nd m).k = true) : fkB nd m = true ↔ KR nd m ∧ epB nd m = true := by
  have hr : 20 ≤ (nd m).k ∧ (nd m).k ≤ 38 := by unfold exK at hs; simp at hs; exact hs
  have hE := @kr_exs nd m
  have aE := fun i hi => @at_as sEx exK setEx (by decide) nd m i hi
  have aI := fun i hi => @at_as sIn (· == 23) setIn (by decide) nd m i hi
  have aM := fun i hi => @at_as sLi mnK setLi (by decide) nd m i hi
  unfold fkB epB
  rcases (show (nd m).k = 20 ∨ (nd m).k = 21 ∨ (nd m).k = 22 ∨ (nd m).k = 23 ∨ (nd m).k = 24 ∨ (nd m).k = 25 ∨ (nd m).k = 26 ∨ (nd m).k = 27 ∨ (nd m).k = 28 ∨ (nd m).k = 29 ∨ (nd m).k = 30 ∨ (nd m).k = 31 ∨ (nd m).k = 32 ∨ (nd m).k = 33 ∨ (nd m).k = 34 ∨ (nd m).k = 35 ∨ (nd m).k = 36 ∨ (nd m).k = 37 ∨ (nd m).k = 38 by omega) with e | e | e | e | e | e | e | e | e | e | e | e | e | e | e | e | e | e | e <;> (simp only [e]; simp only [Int.reduceEq, if_true, if_false, or_false, or_true, uo_tf, uo_ft, uo_ff, Bool.and_eq_true, Bool.or_eq_true, beq_iff_eq, decide_eq_true_eq])
  all_goals first
    | grind [kr0, kr1]
    | (rw [hE]; grind)
    | (constructor
       · rintro ⟨⟨h1, h2⟩, h3⟩
         rw [← bare_at h3]
         exact ⟨kr0 (by omega), h1, h2⟩
       · rintro ⟨_, h1, h2⟩
         have hb := bare_rn h2
         rw [bare_at hb]
         exact ⟨⟨h1, h2⟩, hb⟩)
    | (constructor
       · intro h
         have hk : (nd m).kn = 1 := by omega
         have := kr1 hk h.2.2
         rw [hk, exs_one]
         rw [aE _ (by omega)] at h
         grind
       · intro h
         have hk : (nd m).kn = 1 := by omega
         rw [hk, exs_one] at h
         rw [aE _ (by omega)]
         grind)
    | (constructor
       · intro h
         have hk : (nd m).kn = 2 := by omega
         have := kr2 hk h.2.1.2 h.2.2
         rw [hk, exs_two]
         rw [aE _ (by omega), aE _ (by omega)] at h
         grind
       · intro h
         have hk : (nd m).kn = 2 := by omega
         rw [hk, exs_two] at h
         rw [aE _ (by omega), aE _ (by omega)]
         grind)

theorem ep_kind {nd : Nat → ND} {m : Nat} (h : epB nd m = true) : exK (nd m).k = true := by
  unfold epB at h
  have hr : 20 ≤ (nd m).k ∧ (nd m).k ≤ 38 := by
    refine Classical.byContradiction fun hn => ?_
    have hf : ∀ {p : Prop} [Decidable p] {a b : Bool}, ¬ p → (if p then a else b) = true → b = true := fun hp h => by rwa [if_neg hp] at h
    exact absurd (hf (by omega) (hf (by omega) (hf (by omega) (hf (by omega) (hf (by omega) (hf (by omega) (hf (by omega) (hf (by omega) (hf (by omega) (hf (by omega) (hf (by omega) (hf (by omega) h)))))))))))) (by decide)
  unfold exK
  simp
  exact hr
theorem kr_b {nd : Nat → ND} {m : Nat} : allB (fun i => !(decide ((nd m).c i < 0) || decide ((m : Int) ≤ (nd m).c i))) 0 (nd m).kn = true ↔ KR nd m := by
  rw [allB_true]
  exact ⟨fun h i hi => by have := h i (Nat.zero_le _) hi; simp at this; omega, fun h i _ hi => by have := h i hi; simp; omega⟩

/-- the form is one -/
theorem fit_sh (nd : Nat → ND) (m : Nat) : fitB nd m = shB nd m := by
  rw [Bool.eq_iff_iff]
  unfold fitB shB
  by_cases hs : stK (nd m).k = true
  · have h := fk_st hs
    rw [if_pos hs, if_pos hs]
    simp only [Bool.and_eq_true, kr_b, h, hs, Bool.or_eq_true, Bool.not_eq_true', decide_eq_false_iff_not, decide_eq_true_eq]
    constructor
    · rintro ⟨⟨⟨_, h1⟩, h2⟩, h3, h4⟩
      exact ⟨⟨by omega, h3⟩, h1, h4⟩
    · rintro ⟨⟨h1, h2⟩, h3, h4⟩
      exact ⟨⟨⟨.inl trivial, h3⟩, by omega⟩, h2, h4⟩
  · rw [if_neg hs, if_neg hs]
    simp only [Bool.and_eq_true, kr_b, Bool.or_eq_true, Bool.not_eq_true', decide_eq_false_iff_not, decide_eq_true_eq]
    constructor
    · rintro ⟨⟨⟨h0, h1⟩, h2⟩, h3⟩
      have h := (fk_ex (h0.resolve_left hs)).1 h3
      exact ⟨⟨by omega, h.1⟩, h1, h.2⟩
    · rintro ⟨⟨h1, h2⟩, h3, h4⟩
      exact ⟨⟨⟨.inr (ep_kind h4), h3⟩, by omega⟩, (fk_ex (ep_kind h4)).2 ⟨h2, h4⟩⟩
end Go.Proofs.YtcpjnddkibbddaaGreat

/-! The program's check of a unit: small functions. -/
namespace Go.Proofs.YtcpjnddkibbddaaGreat
open Go.RowKit
attribute [local go_sem] run_store_float
attribute [local go_sem ↓] Go.wp_at_zero Go.wp_at_succ

def btB (i l m : Int) : Bool := decide (l ≤ i) && decide (i ≤ m)
def wiB (i m : Int) : Bool := decide (0 ≤ i) && decide (i < m)
set_option maxRecDepth 100000 in
set_option maxHeartbeats 2000000 in
theorem between_calls (i l m : Int) (w : World) : Calls Tryz.prog 55 #[.int .i64 i, .int .i64 l, .int .i64 m] w fun e w' => e = .returned (.bool (btB i l m)) ∧ w' = w := by
  go_enter Tryz.func55, Tryz.ntmps55
  go_wp2_with fail
  all_goals go_ret
  all_goals exact ⟨by simp [btB, *] <;> (intros; omega), rfl⟩
set_option maxRecDepth 100000 in
set_option maxHeartbeats 2000000 in
theorem within_calls (i m : Int) (w : World) : Calls Tryz.prog 126 #[.int .i64 i, .int .i64 m] w fun e w' => e = .returned (.bool (wiB i m)) ∧ w' = w := by
  go_enter Tryz.func126, Tryz.ntmps126
  go_wp2_with fail
  all_goals go_ret
  all_goals exact ⟨by simp [wiB, *] <;> (intros; omega), rfl⟩
theorem u64_wrap_id {x : Int} (h0 : 0 ≤ x) (h1 : x < 18446744073709551616) : IntKind.u64.wrap x = x := by
  simp only [IntKind.wrap_u64]
  omega
theorem and_one (m : Nat) (hm : m < 18446744073709551616) : bits .and .u64 (m : Int) 1 = ((m % 2 : Nat) : Int) := by
  have hb : bits .and .u64 (m : Int) 1 = IntKind.u64.wrap (((BitVec.ofInt 64 (m : Int)) &&& (BitVec.ofInt 64 1)).toNat : Int) := rfl
  rw [hb]
  have h1 : (BitVec.ofInt 64 (m : Int)).toNat = m := by simp; omega
  have h2 : ((BitVec.ofInt 64 (m : Int)) &&& (BitVec.ofInt 64 1)).toNat = m % 2 := by
    rw [BitVec.toNat_and, h1]
    show m &&& 1 = m % 2
    exact Nat.and_one_is_mod m
  rw [h2, u64_wrap_id (by omega) (by omega)]
theorem bit_as {s : Nat} (hs : s < 18446744073709551616) {k : Int} : (bits .and .u64 ((s : Int) / 2 ^ min k.toNat 64) 1 == 1) = Nat.testBit s k.toNat := by
  have hd : ((s : Int) / 2 ^ min k.toNat 64) = ((s / 2 ^ min k.toNat 64 : Nat) : Int) := by simp
  rw [hd, and_one _ (Nat.lt_of_le_of_lt (Nat.div_le_self _ _) hs)]
  by_cases h : k.toNat ≤ 64
  · rw [Nat.min_eq_left h, Nat.testBit_eq_decide_div_mod_eq]
    rw [Bool.eq_iff_iff, beq_iff_eq, decide_eq_true_eq]
    omega
  · rw [Nat.min_eq_right (by omega), bit_far (by omega) (by omega), Nat.div_eq_of_lt (by omega)]
    rfl
set_option maxRecDepth 100000 in
set_option maxHeartbeats 2000000 in
theorem has_calls (s : Nat) (hs : s < 18446744073709551616) (k : Int) (w : World) : Calls Tryz.prog 19 #[.int .u64 (s : Int), .int .i64 k] w fun e w' => e = .returned (.bool (setB s k)) ∧ w' = w := by
  by_cases h0 : 0 ≤ k
  · go_enter Tryz.func19, Tryz.ntmps19
    go_wp2_with fail
    go_ret
    refine ⟨ret_bool ?_, rfl⟩
    rw [bit_as hs]
    unfold setB
    simp [h0]
  · go_enter Tryz.func19, Tryz.ntmps19
    go_wp2_with fail
    go_ret
    refine ⟨ret_bool ?_, rfl⟩
    unfold setB
    simp
    omega

set_option maxRecDepth 100000 in
set_option maxHeartbeats 8000000 in
theorem lineFits_calls (d : ND) (x : NA) (w : World) : Calls Tryz.prog 109 #[nodeV d x] w fun e w' => e = .returned (.bool (if stK d.k then decide (1 ≤ d.l) && decide (d.l ≤ 100000) else d.l == 0)) ∧ Below w.heap.size w w' := by
  cases hst : stK d.k
  · have hs2 : setB 32766 d.k = false := (setSt d.k).trans hst
    go_enter Tryz.func109, Tryz.ntmps109
    go_wp2_with (go_at_call 19; refine (has_calls 32766 (by decide) _ _).mono ?_; rw [hs2]; rintro e w1 ⟨rfl, rfl⟩)
    go_ret
    exact ⟨rfl, below_alloc _ _⟩
  · have hs2 : setB 32766 d.k = true := (setSt d.k).trans hst
    go_enter Tryz.func109, Tryz.ntmps109
    go_wp2_with (first | (go_at_call 19; refine (has_calls 32766 (by decide) _ _).mono ?_; rw [hs2]; rintro e w1 ⟨rfl, rfl⟩) | (go_at_call 55; refine (between_calls _ _ _ _).mono ?_; rintro e w1 ⟨rfl, rfl⟩))
    go_ret
    exact ⟨rfl, below_alloc _ _⟩

end Go.Proofs.YtcpjnddkibbddaaGreat

/-! The program's check of a unit: the fields that are used. -/
namespace Go.Proofs.YtcpjnddkibbddaaGreat
open Go.RowKit
attribute [local go_sem] run_store_float
attribute [local go_sem ↓] Go.wp_at_zero Go.wp_at_succ

/-- what the flags say -/
def UoSays (d : ND) (x : NA) (v : Int) (o n f s r k : Bool) : Prop := ∀ w : World, Calls Tryz.prog 145 #[nodeV d x, .int .i64 v] w fun e w' => e = .returned (.bool (uoB d o n f s r k)) ∧ Below w.heap.size w w'
set_option maxRecDepth 100000 in
set_option maxHeartbeats 8000000 in
theorem uo0_calls (d : ND) (x : NA) : UoSays d x 0 false false false false false false := by
  intro w
  go_enter Tryz.func145, Tryz.ntmps145
  go_wp2_with fail
  all_goals go_ret
  all_goals exact ⟨by simp [uoB, fz, se, *], below_alloc _ _⟩
set_option maxRecDepth 100000 in
set_option maxHeartbeats 8000000 in
theorem uo32_calls (d : ND) (x : NA) : UoSays d x 32 false false false false false true := by
  intro w
  go_enter Tryz.func145, Tryz.ntmps145
  go_wp2_with fail
  all_goals go_ret
  all_goals exact ⟨by simp [uoB, fz, se, *], below_alloc _ _⟩
set_option maxRecDepth 100000 in
set_option maxHeartbeats 8000000 in
theorem uo48_calls (d : ND) (x : NA) : UoSays d x 48 false false false false true true := by
  intro w
  go_enter Tryz.func145, Tryz.ntmps145
  go_wp2_with fail
  all_goals go_ret
  all_goals exact ⟨by simp [uoB, fz, se, *], below_alloc _ _⟩
set_option maxRecDepth 100000 in
set_option maxHeartbeats 8000000 in
theorem uo34_calls (d : ND) (x : NA) : UoSays d x 34 false true false false false true := by
  intro w
  go_enter Tryz.func145, Tryz.ntmps145
  go_wp2_with fail
  all_goals go_ret
  all_goals exact ⟨by simp [uoB, fz, se, *], below_alloc _ _⟩
set_option maxRecDepth 100000 in
set_option maxHeartbeats 8000000 in
theorem uo2_calls (d : ND) (x : NA) : UoSays d x 2 false true false false false false := by
  intro w
  go_enter Tryz.func145, Tryz.ntmps145
  go_wp2_with fail
  all_goals go_ret
  all_goals exact ⟨by simp [uoB, fz, se, *], below_alloc _ _⟩
set_option maxRecDepth 100000 in
set_option maxHeartbeats 8000000 in
theorem uo4_calls (d : ND) (x : NA) : UoSays d x 4 false false true false false false := by
  intro w
  go_enter Tryz.func145, Tryz.ntmps145
  go_wp2_with fail
  all_goals go_ret
  all_goals exact ⟨by simp [uoB, fz, se, *], below_alloc _ _⟩
set_option maxRecDepth 100000 in
set_option maxHeartbeats 8000000 in
theorem uo8_calls (d : ND) (x : NA) : UoSays d x 8 false false false true false false := by
  intro w
  go_enter Tryz.func145, Tryz.ntmps145
  go_wp2_with fail
  all_goals go_ret
  all_goals exact ⟨by simp [uoB, fz, se, *], below_alloc _ _⟩
set_option maxRecDepth 100000 in
set_option maxHeartbeats 8000000 in
theorem uo16_calls (d : ND) (x : NA) : UoSays d x 16 false false false false true false := by
  intro w
  go_enter Tryz.func145, Tryz.ntmps145
  go_wp2_with fail
  all_goals go_ret
  all_goals exact ⟨by simp [uoB, fz, se, *], below_alloc _ _⟩
set_option maxRecDepth 100000 in
set_option maxHeartbeats 8000000 in
theorem uo33_calls (d : ND) (x : NA) : UoSays d x 33 true false false false false true := by
  intro w
  go_enter Tryz.func145, Tryz.ntmps145
  go_wp2_with fail
  all_goals go_ret
  all_goals exact ⟨by simp [uoB, fz, se, *], below_alloc _ _⟩
end Go.Proofs.YtcpjnddkibbddaaGreat

/-! The program's check of a unit: kids held against sets of kinds. -/
namespace Go.Proofs.YtcpjnddkibbddaaGreat
open Go.RowKit
attribute [local go_sem] run_store_float
attribute [local go_sem ↓] Go.wp_at_zero Go.wp_at_succ

/-- the nodes ahead, as the visitor at F has them -/
structure AH (w : World) (F m : Nat) (nd : Nat → ND) (nas : Nat → NA) : Prop where
  at' : ∃ na nc, w.cell? ⟨F, 0, none⟩ = some (.slice na m nc) ∧ RowN 8 0 w na m (fun i => nodeC (nd i) (nas i))
theorem AH.below {w w' : World} {F m : Nat} {nd : Nat → ND} {nas : Nat → NA} (h : AH w F m nd nas) (hb : Below w.heap.size w w') : AH w' F m nd nas := by
  obtain ⟨na, nc, h1, h2⟩ := h.at'
  exact ⟨na, nc, cell_later hb h1, h2.below hb⟩
theorem kidS_in {s : Nat} {nd : Nat → ND} {m : Nat} {c : Int} {k : Nat} (h : c = k) (hk : k < m) : kidS s nd m c = setB s (nd k).k := by
  unfold kidS
  subst h
  simp [hk]
theorem kidS_out {s : Nat} {nd : Nat → ND} {m : Nat} {c : Int} (h : ¬ (0 ≤ c ∧ c < m)) : kidS s nd m c = false := by
  unfold kidS
  by_cases h0 : 0 ≤ c
  · have : ¬ c < m := fun h1 => h ⟨h0, h1⟩
    simp [this]
  · simp [h0]

set_option maxRecDepth 100000 in
set_option maxHeartbeats 4000000 in
theorem all_calls (F m : Nat) (nd : Nat → ND) (nas : Nat → NA) (a : Option Addr) (n cap : Nat) (c : Nat → Int) (s : Nat) (w : World) (hs : s < 18446744073709551616) (hn : n ≤ 1048576) (hA : AH w F m nd nas) (hT : IntsAt 0 w a n c) :
    Calls Tryz.prog 146 #[.pointer (some ⟨F, 0, none⟩), .slice a n cap, .int .u64 (s : Int)] w fun e w' => e = .returned (.bool (allB (fun i => kidS s nd m (c i)) 0 n)) ∧ w' = w := by
  have HT : Hid (RowN 1 0 w a n fun i => #[.int .i64 (c i)]) := hT
  obtain ⟨na, nc, f0, hN⟩ := hA.at'
  have HN : Hid (RowN 8 0 w na m (fun i => nodeC (nd i) (nas i))) := hN
  clear hT hA hN
  go_enter Tryz.func146, Tryz.ntmps146
  go_wp2_with fail
  go_loopw [11] (fun i wr => ∃ (k : Nat), k ≤ n ∧ i = .int .i64 k ∧ Hid (∀ j, j < k → kidS s nd m (c j) = true) ∧ wr = w) (fun i _ => n - (intOf i).toNat)
  case atStart => exact ⟨0, Nat.zero_le _, rfl, fun j hj => by omega, rfl⟩
  case round =>
    obtain ⟨k, hk, rfl, HK, rfl⟩ := hrel
    by_cases hkn : k < n
    · obtain ⟨b, off, rfl, _, hb, d0⟩ := cells1 HT.out hkn
      by_cases hin : 0 ≤ c k ∧ c k < m
      · obtain ⟨y, hy⟩ : ∃ y : Nat, c k = y := ⟨(c k).toNat, by omega⟩
        have hym : y < m := by omega
        have hks : kidS s nd m (c k) = setB s (nd y).k := kidS_in hy hym
        have HKS : Hid (kidS s nd m (c k) = setB s (nd y).k) := hks
        rw [hy] at d0
        obtain ⟨b2, o2, rfl, _, hb2, g0, _⟩ := cells8 HN.out hym
        have hw : wiB (y : Int) (m : Int) = true := by unfold wiB; simp; omega
        clear hks hin hy
        cases hset : setB s (nd y).k
        · have hv : allB (fun i => kidS s nd m (c i)) 0 n = false := allB_no (Nat.zero_le _) hkn (HKS.out.trans hset)
          have HV : Hid (allB (fun i => kidS s nd m (c i)) 0 n = false) := hv
          clear hv
          go_wp2_with (first | (go_at_call 126; refine (within_calls _ _ _).mono ?_; rw [hw]; rintro e w1 ⟨rfl, rfl⟩) | (go_at_call 19; refine (has_calls s hs _ _).mono ?_; rw [hset]; rintro e w1 ⟨rfl, rfl⟩))
          go_ret
          exact ⟨ret_bool HV.out.symm, rfl⟩
        · have HV : Hid (kidS s nd m (c k) = true) := HKS.out.trans hset
          go_wp2_with (first | (go_at_call 126; refine (within_calls _ _ _).mono ?_; rw [hw]; rintro e w1 ⟨rfl, rfl⟩) | (go_at_call 19; refine (has_calls s hs _ _).mono ?_; rw [hset]; rintro e w1 ⟨rfl, rfl⟩))
          go_roundw
          case rel => exact ⟨k + 1, by omega, by go_num, fun j hj => by
            by_cases e : j = k
            · subst e; exact HV.out
            · exact HK.out j (by omega), by first | rfl | trivial⟩
          case measure => simp [intOf]; omega
      · have hv : allB (fun i => kidS s nd m (c i)) 0 n = false := allB_no (Nat.zero_le _) hkn (kidS_out hin)
        have HV : Hid (allB (fun i => kidS s nd m (c i)) 0 n = false) := hv
        have hw : wiB (c k) (m : Int) = false := by unfold wiB; simp; omega
        clear hv hin
        go_wp2_with (go_at_call 126; refine (within_calls _ _ _).mono ?_; rw [hw]; rintro e w1 ⟨rfl, rfl⟩)
        go_ret
        exact ⟨ret_bool HV.out.symm, rfl⟩
    · have HV : Hid (allB (fun i => kidS s nd m (c i)) 0 n = true) := allB_true.2 fun i _ hi => HK.out i (by omega)
      go_wp2_with fail
      go_ret
      exact ⟨ret_bool HV.out.symm, rfl⟩

theorem ints_sub {w : World} {a : Option Addr} {n : Nat} {c : Nat → Int} (h : IntsAt 0 w a n c) {b o : Nat} (e : a = some ⟨b, o, none⟩) (i j : Nat) (hij : i + j ≤ n) : IntsAt 0 w (some ⟨b, o + i, none⟩) j (fun k => c (i + k)) := fun hj => by
  obtain ⟨b', o', e', _, h1, h2⟩ := h (by omega)
  obtain ⟨rfl, rfl⟩ : b = b' ∧ o = o' := by rw [e] at e'; simpa using e'
  refine ⟨b, o + i, rfl, Nat.zero_le _, h1, fun k hk l hl => ?_⟩
  have := h2 (i + k) (by omega) l hl
  rw [← this]
  congr 2
  omega

set_option maxRecDepth 100000 in
set_option maxHeartbeats 4000000 in
theorem row_calls (F m : Nat) (nd : Nat → ND) (nas : Nat → NA) (a : Option Addr) (n cap : Nat) (c : Nat → Int) (R j : Nat) (s : Nat → Nat) (w : World) (hs : ∀ i, i < j → s i < 18446744073709551616) (hn : n ≤ 1048576) (hj : j ≤ 4) (hcap : n ≤ cap) (hA : AH w F m nd nas) (hT : IntsAt 0 w a n c) (hR : ∀ i, i < j → w.cell? ⟨R, i, none⟩ = some (.int .u64 (s i : Int))) :
    Calls Tryz.prog 147 #[.pointer (some ⟨F, 0, none⟩), .slice a n cap, .slice (some ⟨R, 0, none⟩) j j] w fun e w' => e = .returned (.bool ((n : Int) == j && allB (fun i => kidS (s i) nd m (c i)) 0 j)) ∧ w' = w := by
  have HT : Hid (IntsAt 0 w a n c) := hT
  have HA : Hid (AH w F m nd nas) := hA
  have HR : Hid (∀ i, i < j → w.cell? ⟨R, i, none⟩ = some (.int .u64 (s i : Int))) := hR
  have HS : Hid (∀ i, i < j → s i < 18446744073709551616) := hs
  clear hT hA hR hs
  by_cases hnj : n = j
  · subst hnj
    have he : ((n : Int) == n && allB (fun i => kidS (s i) nd m (c i)) 0 n) = allB (fun i => kidS (s i) nd m (c i)) 0 n := by simp
    rw [he]
    clear he
    go_enter Tryz.func147, Tryz.ntmps147
    go_wp2_with fail
    go_loopw [16] (fun i wr => ∃ (k : Nat), k ≤ n ∧ i = .int .i64 k ∧ Hid (∀ j, j < k → kidS (s j) nd m (c j) = true) ∧ wr = w) (fun i _ => n - (intOf i).toNat)
    case atStart => exact ⟨0, Nat.zero_le _, rfl, fun j hj => by omega, rfl⟩
    case round =>
      obtain ⟨k, hk, rfl, HK, rfl⟩ := hrel
      by_cases hkn : k < n
      · have r0 := HR.out k hkn
        obtain ⟨b, off, rfl, _, hb, d0⟩ := cells1 HT.out hkn
        have HI : Hid (IntsAt 0 wr (some ⟨b, off + k, none⟩) 1 (fun i => c (k + i))) := ints_sub HT.out rfl k 1 (by omega)
        have hone : allB (fun i => kidS (s k) nd m (c (k + i))) 0 1 = kidS (s k) nd m (c k) := by
          rw [Bool.eq_iff_iff, allB_true]
          exact ⟨fun h => h 0 (Nat.le_refl _) (by omega), fun h i _ hi => by obtain rfl : i = 0 := by omega
                                                                             exact h⟩
        clear d0
        cases hks : kidS (s k) nd m (c k)
        · have HV : Hid (allB (fun i => kidS (s i) nd m (c i)) 0 n = false) := allB_no (Nat.zero_le _) hkn hks
          rw [hks] at hone
          go_wp2_with (go_at_call 146; refine (all_calls F m nd nas _ _ _ (fun i => c (k + i)) (s k) _ (HS.out k hkn) (by omega) HA.out HI.out).mono ?_; rw [hone]; rintro e w1 ⟨rfl, rfl⟩)
          go_ret
          exact ⟨ret_bool HV.out.symm, rfl⟩
        · have HV : Hid (kidS (s k) nd m (c k) = true) := hks
          rw [hks] at hone
          go_wp2_with (go_at_call 146; refine (all_calls F m nd nas _ _ _ (fun i => c (k + i)) (s k) _ (HS.out k hkn) (by omega) HA.out HI.out).mono ?_; rw [hone]; rintro e w1 ⟨rfl, rfl⟩)
          go_roundw
          case rel => exact ⟨k + 1, by omega, by go_num, fun j hj => by
            by_cases e : j = k
            · subst e; exact HV.out
            · exact HK.out j (by omega), by first | rfl | trivial⟩
          case measure => simp [intOf]; omega
      · have HV : Hid (allB (fun i => kidS (s i) nd m (c i)) 0 n = true) := allB_true.2 fun i _ hi => HK.out i (by omega)
        go_wp2_with fail
        go_ret
        exact ⟨ret_bool HV.out.symm, rfl⟩
  · have he : ((n : Int) == j && allB (fun i => kidS (s i) nd m (c i)) 0 j) = false := by
      have : ((n : Int) == j) = false := by simp; omega
      rw [this]; rfl
    rw [he]
    have q : ((n : Int) != (j : Int)) = true := by simp; omega
    clear he
    go_enter Tryz.func147, Tryz.ntmps147
    go_wp2_with fail
    go_ret
    exact ⟨rfl, rfl⟩
end Go.Proofs.YtcpjnddkibbddaaGreat
