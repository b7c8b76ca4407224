import Derived.Test.YtdialodjllpgaaaGreatDoorShF
/-! The form of a node, as the program holds it against its tables: plain. -/
namespace Go.Proofs.YtdialodjllpgaaaGreatDoor

/-- a set of kinds, a bit for each -/
def setB (s : Nat) (k : Int) : Bool := decide (0 ≤ k) && Nat.testBit s k.toNat
/-- a kid that stands ahead and is of the set -/
def kidS (s : Nat) (nd : Nat → ND) (m : Nat) (c : Int) : Bool := decide (0 ≤ c) && decide (c < m) && setB s (nd c.toNat).k
abbrev sBl : Nat := 2
abbrev sEl : Nat := 34
abbrev sTg : Nat := 8791261184
abbrev sCa : Nat := 17179869184
abbrev sLi : Nat := 154618822656
abbrev sSt : Nat := 32766
abbrev sEx : Nat := 549754765312
abbrev sIn : Nat := 8388608

theorem bit_far {s : Nat} (h : s < 2 ^ 64) {k : Nat} (hk : 64 ≤ k) : Nat.testBit s k = false :=
  Nat.testBit_lt_two_pow (Nat.lt_of_lt_of_le h (Nat.pow_le_pow_right (by omega) hk))
theorem setB_as (s : Nat) (h : s < 2 ^ 64) (p : Int → Bool) (hp : ∀ k : Nat, k < 64 → Nat.testBit s k = p k) (hq : ∀ k : Int, p k = true → 0 ≤ k ∧ k < 64) (k : Int) : setB s k = p k := by
  unfold setB
  by_cases h0 : 0 ≤ k
  · by_cases h1 : k < 64
    · obtain ⟨j, rfl⟩ : ∃ j : Nat, k = j := ⟨k.toNat, by omega⟩
      rw [Int.toNat_natCast, hp j (by omega)]
      simp
    · rw [bit_far h (by omega), Bool.and_false]
      cases e : p k
      · rfl
      · have := hq k e; omega
  · cases e : p k
    · simp [h0]
    · have := hq k e; omega
theorem setSt (k : Int) : setB sSt k = stK k := setB_as _ (by decide) _ (by decide) (fun k h => by unfold stK at h; simp at h; omega) k
theorem setEx (k : Int) : setB sEx k = exK k := setB_as _ (by decide) _ (by decide) (fun k h => by unfold exK at h; simp at h; omega) k
theorem setTg (k : Int) : setB sTg k = tgK k := setB_as _ (by decide) _ (by decide) (fun k h => by unfold tgK at h; simp at h; omega) k
theorem setLi (k : Int) : setB sLi k = mnK k := setB_as _ (by decide) _ (by decide) (fun k h => by unfold mnK at h; simp at h; omega) k
theorem setBl (k : Int) : setB sBl k = (k == 1) := setB_as _ (by decide) (· == 1) (by decide) (fun k h => by simp at h; omega) k
theorem setEl (k : Int) : setB sEl k = (k == 1 || k == 5) := setB_as _ (by decide) (fun k => k == 1 || k == 5) (by decide) (fun k h => by simp at h; omega) k
theorem setCa (k : Int) : setB sCa k = (k == 34) := setB_as _ (by decide) (· == 34) (by decide) (fun k h => by simp at h; omega) k
theorem setIn (k : Int) : setB sIn k = (k == 23) := setB_as _ (by decide) (· == 23) (by decide) (fun k h => by simp at h; omega) k

/-- a kid's kind as the specification asks it is the set's, at a kid that is there -/
theorem kid_as {s : Nat} {p : Int → Bool} (hs : ∀ k, setB s k = p k) (h0 : p 0 = false) {nd : Nat → ND} {m i : Nat} (hi : i < (nd m).kn) : p (kidK nd m i) = kidS s nd m ((nd m).c i) := by
  unfold kidK kidS
  rw [if_pos hi, hs]
  by_cases h : 0 ≤ (nd m).c i ∧ (nd m).c i < m
  · rw [if_pos h]; simp [h.1, h.2]
  · rw [if_neg h, h0]
    by_cases h1 : 0 ≤ (nd m).c i
    · have : ¬ (nd m).c i < m := fun h2 => h ⟨h1, h2⟩
      simp [this]
    · simp [h1]
theorem allB_congr {p q : Nat → Bool} {lo hi : Nat} (h : ∀ i, lo ≤ i → i < hi → p i = q i) : allB p lo hi = allB q lo hi := by
  rw [Bool.eq_iff_iff, allB_true, allB_true]
  exact ⟨fun k i a b => by rw [← h i a b]; exact k i a b, fun k i a b => by rw [h i a b]; exact k i a b⟩

/-- the fields that are not used are 0 or empty -/
def uoB (a : ND) (o n f s r k : Bool) : Bool := (o || a.o == 0) && (n || a.n == 0) && (f || fz a.f) && (s || se a.s) && (r || (a.rn : Int) == 0) && (k || (a.kn : Int) == 0)
/-- all kids from lo to below hi are of the set -/
def allS (s : Nat) (nd : Nat → ND) (m lo hi : Nat) : Bool := allB (fun i => kidS s nd m ((nd m).c i)) lo hi
/-- kid i is of the set -/
def atS (s : Nat) (nd : Nat → ND) (m i : Nat) : Bool := kidS s nd m ((nd m).c i)

/-- the form of a node, as the program asks it, kind by kind -/
def fkB (nd : Nat → ND) (m : Nat) : Bool :=
  if (nd m).k = 1 then uoB (nd m) false false false false false true && allS sSt nd m 0 (nd m).kn
  else if (nd m).k = 2 then uoB (nd m) false false false false true true && decide (0 < (nd m).rn) && allS sEx nd m 0 (nd m).kn
  else if (nd m).k = 3 then uoB (nd m) false true false false false true && decide (0 < (nd m).n) && decide ((nd m).n < (nd m).kn) && allS sTg nd m 0 (nd m).n.toNat && allS sEx nd m (nd m).n.toNat (nd m).kn
  else if (nd m).k = 4 ∨ (nd m).k = 14 then uoB (nd m) false false false false false true && (((nd m).kn : Int) == 1 && atS sCa nd m 0)
  else if (nd m).k = 5 then uoB (nd m) false false false false false true && (((nd m).kn : Int) == 2 && atS sEx nd m 0 && atS sBl nd m 1 || ((nd m).kn : Int) == 3 && atS sEx nd m 0 && atS sBl nd m 1 && atS sEl nd m 2)
  else if (nd m).k = 6 then uoB (nd m) false false false false false true && (((nd m).kn : Int) == 2 && atS sEx nd m 0 && atS sBl nd m 1)
  else if (nd m).k = 7 then uoB (nd m) false false false false true true && ((nd m).rn : Int) == 1 && (((nd m).kn : Int) == 4 && atS sEx nd m 0 && atS sEx nd m 1 && atS sEx nd m 2 && atS sBl nd m 3)
  else if (nd m).k = 8 then uoB (nd m) false false false false true true && (decide ((1 : Int) ≤ (nd m).rn) && decide (((nd m).rn : Int) ≤ 4)) && (((nd m).kn : Int) == 2 && atS sEx nd m 0 && atS sBl nd m 1)
  else if (nd m).k = 11 then uoB (nd m) false false false false false true && allS sEx nd m 0 (nd m).kn
  else if (nd m).k = 12 then uoB (nd m) false false false false true true && ((nd m).rn : Int) == 2 && (((nd m).kn : Int) == 2 && atS sBl nd m 0 && atS sBl nd m 1)
  else if (nd m).k = 13 then uoB (nd m) false false false false false true && (((nd m).kn : Int) == 1 && atS sEx nd m 0)
  else if (nd m).k = 9 ∨ (nd m).k = 10 ∨ (nd m).k = 20 ∨ (nd m).k = 21 ∨ (nd m).k = 22 ∨ (nd m).k = 37 then uoB (nd m) false false false false false false
  else if (nd m).k = 23 then uoB (nd m) false true false false false false
  else if (nd m).k = 24 then uoB (nd m) false false true false false false && nnB (nd m).f
  else if (nd m).k = 25 then uoB (nd m) false false false true false false && decide (((nd m).s.size : Int) ≤ 4000)
  else if (nd m).k = 26 ∨ (nd m).k = 27 ∨ (nd m).k = 36 then uoB (nd m) false false false false true false && ((nd m).rn : Int) == 1
  else if (nd m).k = 28 then uoB (nd m) false true false false false false && decide (0 ≤ (nd m).n) && decide ((nd m).n < 15)
  else if (nd m).k = 29 ∨ (nd m).k = 30 ∨ (nd m).k = 33 then uoB (nd m) false false false false false true && (((nd m).kn : Int) == 2 && atS sEx nd m 0 && atS sEx nd m 1)
  else if (nd m).k = 31 then uoB (nd m) true false false false false true && (decide (19 ≤ (nd m).o) && decide ((nd m).o ≤ 22)) && (((nd m).kn : Int) == 1 && atS sEx nd m 0)
  else if (nd m).k = 32 then uoB (nd m) true false false false false true && (decide (1 ≤ (nd m).o) && decide ((nd m).o ≤ 18)) && (((nd m).kn : Int) == 2 && atS sEx nd m 0 && atS sEx nd m 1)
  else if (nd m).k = 34 then uoB (nd m) false false false false false true && decide (0 < (nd m).kn) && allS sEx nd m 0 (nd m).kn
  else if (nd m).k = 35 then uoB (nd m) true false false false false true && ((nd m).kn : Int) % 2 == 0 && allS sEx nd m 0 (nd m).kn && ((nd m).o == 0 || (nd m).o == 1 && decide (0 < (nd m).kn) && atS sIn nd m ((nd m).kn - 2) && atS sLi nd m ((nd m).kn - 1))
  else if (nd m).k = 38 then uoB (nd m) false false false false false true && (((nd m).kn : Int) == 1 && atS sLi nd m 0)
  else false
def fitB (nd : Nat → ND) (m : Nat) : Bool :=
  (stK (nd m).k || exK (nd m).k) && (if stK (nd m).k then decide (1 ≤ (nd m).l) && decide ((nd m).l ≤ 100000) else (nd m).l == 0) && decide (((nd m).kn : Int) ≤ 200) && fkB nd m
end Go.Proofs.YtdialodjllpgaaaGreatDoor

/-! The form of a node: the program's and the specification's are one. Plain. -/
namespace Go.Proofs.YtdialodjllpgaaaGreatDoor

/-- all kids stand ahead -/
def KRq (nd : Nat → ND) (m : Nat) : Prop := ∀ i, i < (nd m).kn → 0 ≤ (nd m).c i ∧ (nd m).c i < m
theorem kidS_rng {s : Nat} {nd : Nat → ND} {m : Nat} {c : Int} (h : kidS s nd m c = true) : 0 ≤ c ∧ c < m := by
  unfold kidS at h
  simp at h
  exact h.1
theorem kr_all {s : Nat} {p : Int → Bool} (hs : ∀ k, setB s k = p k) (h0 : p 0 = false) {nd : Nat → ND} {m : Nat} : allS s nd m 0 (nd m).kn = true ↔ KRq nd m ∧ allB (fun i => p (kidK nd m i)) 0 (nd m).kn = true := by
  have e : allS s nd m 0 (nd m).kn = allB (fun i => p (kidK nd m i)) 0 (nd m).kn := allB_congr fun i _ hi => (kid_as hs h0 hi).symm
  rw [e]
  exact ⟨fun h => ⟨fun i hi => by
    have := allB_true.1 h i (Nat.zero_le _) hi
    simp only [kid_as hs h0 hi] at this
    exact kidS_rng this, h⟩, fun h => h.2⟩
theorem kr_exs {nd : Nat → ND} {m : Nat} : allS sEx nd m 0 (nd m).kn = true ↔ KRq nd m ∧ exsB nd m 0 (nd m).kn = true := kr_all setEx (by decide)
theorem at_as {s : Nat} {p : Int → Bool} (hs : ∀ k, setB s k = p k) (h0 : p 0 = false) {nd : Nat → ND} {m i : Nat} (hi : i < (nd m).kn) : atS s nd m i = p (kidK nd m i) := (kid_as hs h0 hi).symm
theorem exs_one {nd : Nat → ND} {m : Nat} : exsB nd m 0 1 = exK (kidK nd m 0) := by
  rw [Bool.eq_iff_iff]
  unfold exsB
  rw [allB_true]
  exact ⟨fun h => h 0 (Nat.le_refl _) (by omega), fun h i _ hi => by obtain rfl : i = 0 := by omega
                                                                     exact h⟩
theorem exs_two {nd : Nat → ND} {m : Nat} : exsB nd m 0 2 = (exK (kidK nd m 0) && exK (kidK nd m 1)) := by
  rw [Bool.eq_iff_iff]
  unfold exsB
  rw [allB_true, Bool.and_eq_true]
  exact ⟨fun h => ⟨h 0 (Nat.le_refl _) (by omega), h 1 (by omega) (by omega)⟩, fun h i _ hi => by
    rcases (show i = 0 ∨ i = 1 by omega) with rfl | rfl
    · exact h.1
    · exact h.2⟩
theorem exs_three {nd : Nat → ND} {m : Nat} : exsB nd m 0 3 = (exK (kidK nd m 0) && exK (kidK nd m 1) && exK (kidK nd m 2)) := by
  rw [Bool.eq_iff_iff]
  unfold exsB
  rw [allB_true, Bool.and_eq_true, Bool.and_eq_true]
  exact ⟨fun h => ⟨⟨h 0 (Nat.le_refl _) (by omega), h 1 (by omega) (by omega)⟩, h 2 (by omega) (by omega)⟩, fun h i _ hi => by
    rcases (show i = 0 ∨ i = 1 ∨ i = 2 by omega) with rfl | rfl | rfl
    · exact h.1.1
    · exact h.1.2
    · exact h.2⟩
theorem kr0 {nd : Nat → ND} {m : Nat} (h : (nd m).kn = 0) : KRq nd m := fun i hi => by omega
theorem kr1 {nd : Nat → ND} {m : Nat} {s : Nat} (h : (nd m).kn = 1) (h0 : atS s nd m 0 = true) : KRq nd m := fun i hi => by
  obtain rfl : i = 0 := by omega
  exact kidS_rng h0
theorem kr2 {nd : Nat → ND} {m : Nat} {s t : Nat} (h : (nd m).kn = 2) (h0 : atS s nd m 0 = true) (h1 : atS t nd m 1 = true) : KRq nd m := fun i hi => by
  rcases (show i = 0 ∨ i = 1 by omega) with rfl | rfl
  · exact kidS_rng h0
  · exact kidS_rng h1
theorem kr3 {nd : Nat → ND} {m : Nat} {s t u : Nat} (h : (nd m).kn = 3) (h0 : atS s nd m 0 = true) (h1 : atS t nd m 1 = true) (h2 : atS u nd m 2 = true) : KRq nd m := fun i hi => by
  rcases (show i = 0 ∨ i = 1 ∨ i = 2 by omega) with rfl | rfl | rfl
  · exact kidS_rng h0
  · exact kidS_rng h1
  · exact kidS_rng h2
theorem kr4 {nd : Nat → ND} {m : Nat} {s t u v : Nat} (h : (nd m).kn = 4) (h0 : atS s nd m 0 = true) (h1 : atS t nd m 1 = true) (h2 : atS u nd m 2 = true) (h3 : atS v nd m 3 = true) : KRq nd m := fun i hi => by
  rcases (show i = 0 ∨ i = 1 ∨ i = 2 ∨ i = 3 by omega) with rfl | rfl | rfl | rfl
  · exact kidS_rng h0
  · exact kidS_rng h1
  · exact kidS_rng h2
  · exact kidS_rng h3

theorem uo_tt (a : ND) (o n f s : Bool) : uoB a o n f s true true = bareB a o n f s a.rn := by simp [uoB, bareB, bareG]
theorem uo_ft (a : ND) (o n f s : Bool) : uoB a o n f s false true = bareB a o n f s 0 := by simp [uoB, bareB, bareG]
theorem uo_ff (a : ND) (o n f s : Bool) : uoB a o n f s false false = (((a.kn : Int) == 0) && bareB a o n f s 0) := by simp only [uoB, bareB, bareG, Bool.false_or, Bool.and_comm]
theorem uo_tf (a : ND) (o n f s : Bool) : uoB a o n f s true false = (((a.kn : Int) == 0) && bareB a o n f s a.rn) := by simp [uoB, bareB, bareG, Bool.and_comm]
theorem bare_at {a : ND} {o n f s : Bool} {r : Int} (h : (a.rn : Int) = r) : bareB a o n f s a.rn = bareB a o n f s r := by rw [h]
theorem blk_at {nd : Nat → ND} {m i : Nat} (h : (nd m).kn = i + 1) : blkB nd m = (kidK nd m i == 1) := by
  unfold blkB
  rw [h]
  simp

/-- statements -/
theorem fk_st {nd : Nat → ND} {m : Nat} (hs : stK (nd m).k = true) : fkB nd m = true ↔ KRq nd m ∧ stBs nd m = true := by
  have hr : 1 ≤ (nd m).k ∧ (nd m).k ≤ 14 := by unfold stK at hs; simp at hs; exact hs
  have hS := @kr_all sSt stK setSt (by decide) nd m
  have hE := @kr_exs nd m
  have aE := fun i hi => @at_as sEx exK setEx (by decide) nd m i hi
  have aB := fun i hi => @at_as sBl (· == 1) setBl (by decide) nd m i hi
  have aL := fun i hi => @at_as sEl (fun k => k == 1 || k == 5) setEl (by decide) nd m i hi
  have aC := fun i hi => @at_as sCa (· == 34) setCa (by decide) nd m i hi
  unfold fkB stBs
  rcases (show (nd m).k = 1 ∨ (nd m).k = 2 ∨ (nd m).k = 3 ∨ (nd m).k = 4 ∨ (nd m).k = 5 ∨ (nd m).k = 6 ∨ (nd m).k = 7 ∨ (nd m).k = 8 ∨ (nd m).k = 9 ∨ (nd m).k = 10 ∨ (nd m).k = 11 ∨ (nd m).k = 12 ∨ (nd m).k = 13 ∨ (nd m).k = 14 by omega) with e | e | e | e | e | e | e | e | e | e | e | e | e | e <;> (simp only [e]; simp only [Int.reduceEq, if_true, if_false, or_false, or_true, uo_tt, uo_ft, uo_ff, Bool.and_eq_true, Bool.or_eq_true, beq_iff_eq, decide_eq_true_eq])
  · rw [hS]; grind
  · rw [hE]; grind
  · constructor
    · rintro ⟨⟨⟨⟨h1, h2⟩, h3⟩, h4⟩, h5⟩
      have hk : KRq nd m := fun i hi => by
        by_cases c : i < (nd m).n.toNat
        · exact kidS_rng (allB_true.1 h4 i (Nat.zero_le _) c)
        · exact kidS_rng (allB_true.1 h5 i (by omega) hi)
      refine ⟨hk, ⟨⟨?_, ?_⟩, h1⟩, ?_⟩
      · simp; omega
      · exact allB_true.2 fun i _ hi => by
          have := allB_true.1 h4 i (Nat.zero_le _) hi
          rwa [← kid_as setTg (by decide) (by omega)] at this
      · exact allB_true.2 fun i h0 hi => by
          have := allB_true.1 h5 i h0 hi
          rwa [← kid_as setEx (by decide) (by omega)] at this
    · rintro ⟨_, ⟨⟨h1, h2⟩, h3⟩, h4⟩
      simp at h1
      refine ⟨⟨⟨⟨h3, by omega⟩, by omega⟩, ?_⟩, ?_⟩
      · exact allB_true.2 fun i _ hi => by
          have := allB_true.1 h2 i (Nat.zero_le _) hi
          rwa [kid_as setTg (by decide) (by omega)] at this
      · exact allB_true.2 fun i h0 hi => by
          have := allB_true.1 h4 i h0 hi
          rwa [kid_as setEx (by decide) (by omega)] at this
  case inr.inr.inr.inr.inr.inr.inl =>
    constructor
    · rintro ⟨⟨h1, h2⟩, ⟨⟨⟨h3, h4⟩, h5⟩, h6⟩, h7⟩
      have hk : (nd m).kn = 4 := by omega
      have := kr4 hk h4 h5 h6 h7
      rw [aE _ (by omega)] at h4 h5 h6
      rw [aB _ (by omega)] at h7
      rw [exs_three, blk_at hk, h4, h5, h6, h7, ← bare_at h2]
      exact ⟨this, ⟨⟨h3, rfl⟩, rfl⟩, h1⟩
    · rintro ⟨h0, ⟨⟨h1, h2⟩, h3⟩, h4⟩
      have hk : (nd m).kn = 4 := by omega
      have hb := bare_rn h4
      rw [exs_three] at h2
      rw [blk_at hk] at h3
      simp only [Bool.and_eq_true] at h2
      rw [aE _ (by omega), aE _ (by omega), aE _ (by omega), aB _ (by omega), bare_at hb, h2.1.1, h2.1.2, h2.2, h3]
      exact ⟨⟨h4, hb⟩, ⟨⟨⟨h1, rfl⟩, rfl⟩, rfl⟩, rfl⟩
  case inr.inr.inr.inr.inr.inr.inr.inr.inr.inr.inr.inl =>
    constructor
    · rintro ⟨⟨h1, h2⟩, ⟨h3, h4⟩, h5⟩
      have hk : (nd m).kn = 2 := by omega
      have := kr2 hk h4 h5
      rw [aB _ (by omega)] at h4 h5
      rw [blk_at hk, h5, ← bare_at h2]
      exact ⟨this, ⟨⟨h3, by simpa using h4⟩, rfl⟩, h1⟩
    · rintro ⟨h0, ⟨⟨h1, h2⟩, h3⟩, h4⟩
      have hk : (nd m).kn = 2 := by omega
      have hb := bare_rn h4
      rw [blk_at hk] at h3
      rw [aB _ (by omega), aB _ (by omega), bare_at hb, h2, h3]
      exact ⟨⟨h4, hb⟩, ⟨h1, rfl⟩, rfl⟩
  all_goals first | (rw [hE]; grind) | (rw [exs_one]; grind [kr1, kr2, kr3, kr0, blk_at]) | grind [kr0, kr1, kr2, blk_at]

/-- expressions -/
theorem fk_ex {nd : Nat → ND} {m : Nat} (hs : exK (nd m).k = true) : fkB nd m = true ↔ KRq nd m ∧ epB nd m = true := by
  have hr : 20 ≤ (nd m).k ∧ (nd m).k ≤ 38 := by unfold exK at hs; simp at hs; exact hs
  have hE := @kr_exs nd m
  have aE := fun i hi => @at_as sEx exK setEx (by decide) nd m i hi
  have aI := fun i hi => @at_as sIn (· == 23) setIn (by decide) nd m i hi
  have aM := fun i hi => @at_as sLi mnK setLi (by decide) nd m i hi
  unfold fkB epB
  rcases (show (nd m).k = 20 ∨ (nd m).k = 21 ∨ (nd m).k = 22 ∨ (nd m).k = 23 ∨ (nd m).k = 24 ∨ (nd m).k = 25 ∨ (nd m).k = 26 ∨ (nd m).k = 27 ∨ (nd m).k = 28 ∨ (nd m).k = 29 ∨ (nd m).k = 30 ∨ (nd m).k = 31 ∨ (nd m).k = 32 ∨ (nd m).k = 33 ∨ (nd m).k = 34 ∨ (nd m).k = 35 ∨ (nd m).k = 36 ∨ (nd m).k = 37 ∨ (nd m).k = 38 by omega) with e | e | e | e | e | e | e | e | e | e | e | e | e | e | e | e | e | e | e <;> (simp only [e]; simp only [Int.reduceEq, if_true, if_false, or_false, or_true, uo_tf, uo_ft, uo_ff, Bool.and_eq_true, Bool.or_eq_true, beq_iff_eq, decide_eq_true_eq])
  all_goals first
    | grind [kr0, kr1]
    | (rw [hE]; grind)
    | (constructor
       · rintro ⟨⟨h1, h2⟩, h3⟩
         rw [← bare_at h3]
         exact ⟨kr0 (by omega), h1, h2⟩
       · rintro ⟨_, h1, h2⟩
         have hb := bare_rn h2
         rw [bare_at hb]
         exact ⟨⟨h1, h2⟩, hb⟩)
    | (constructor
       · intro h
         have hk : (nd m).kn = 1 := by omega
         have := kr1 hk h.2.2
         rw [hk, exs_one]
         rw [aE _ (by omega)] at h
         grind
       · intro h
         have hk : (nd m).kn = 1 := by omega
         rw [hk, exs_one] at h
         rw [aE _ (by omega)]
         grind)
    | (constructor
       · intro h
         have hk : (nd m).kn = 2 := by omega
         have := kr2 hk h.2.1.2 h.2.2
         rw [hk, exs_two]
         rw [aE _ (by omega), aE _ (by omega)] at h
         grind
       · intro h
         have hk : (nd m).kn = 2 := by omega
         rw [hk, exs_two] at h
         rw [aE _ (by omega), aE _ (by omega)]
         grind)

theorem ep_kind {nd : Nat → ND} {m : Nat} (h : epB nd m = true) : exK (nd m).k = true := by
  unfold epB at h
  have hr : 20 ≤ (nd m).k ∧ (nd m).k ≤ 38 := by
    refine Classical.byContradiction fun hn => ?_
    have hf : ∀ {p : Prop} [Decidable p] {a b : Bool}, ¬ p → (if p then a else b) = true → b = true := fun hp h => by rwa [if_neg hp] at h
    exact absurd (hf (by omega) (hf (by omega) (hf (by omega) (hf (by omega) (hf (by omega) (hf (by omega) (hf (by omega) (hf (by omega) (hf (by omega) (hf (by omega) (hf (by omega) (hf (by omega) h)))))))))))) (by decide)
  unfold exK
  simp
  exact hr
theorem kr_b {nd : Nat → ND} {m : Nat} : allB (fun i => !(decide ((nd m).c i < 0) || decide ((m : Int) ≤ (nd m).c i))) 0 (nd m).kn = true ↔ KRq nd m := by
  rw [allB_true]
  exact ⟨fun h i hi => by have := h i (Nat.zero_le _) hi; simp at this; omega, fun h i _ hi => by have := h i hi; simp; omega⟩

/-- the form is one -/
theorem fit_sh (nd : Nat → ND) (m : Nat) : fitB nd m = shB nd m := by
  rw [Bool.eq_iff_iff]
  unfold fitB shB
  by_cases hs : stK (nd m).k = true
  · have h := fk_st hs
    rw [if_pos hs, if_pos hs]
    simp only [Bool.and_eq_true, kr_b, h, hs, Bool.or_eq_true, Bool.not_eq_true', decide_eq_false_iff_not, decide_eq_true_eq]
    constructor
    · rintro ⟨⟨⟨_, h1⟩, h2⟩, h3, h4⟩
      exact ⟨⟨by omega, h3⟩, h1, h4⟩
    · rintro ⟨⟨h1, h2⟩, h3, h4⟩
      exact ⟨⟨⟨.inl trivial, h3⟩, by omega⟩, h2, h4⟩
  · rw [if_neg hs, if_neg hs]
    simp only [Bool.and_eq_true, kr_b, Bool.or_eq_true, Bool.not_eq_true', decide_eq_false_iff_not, decide_eq_true_eq]
    constructor
    · rintro ⟨⟨⟨h0, h1⟩, h2⟩, h3⟩
      have h := (fk_ex (h0.resolve_left hs)).1 h3
      exact ⟨⟨by omega, h.1⟩, h1, h.2⟩
    · rintro ⟨⟨h1, h2⟩, h3, h4⟩
      exact ⟨⟨⟨.inr (ep_kind h4), h3⟩, by omega⟩, (fk_ex (ep_kind h4)).2 ⟨h2, h4⟩⟩
end Go.Proofs.YtdialodjllpgaaaGreatDoor
