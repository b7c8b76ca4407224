import Derived.Test.YtiidepafifodjaaDoorTlD
import Derived.Lib.AtoiAllCases
/-! What is told is read back: numbers, plain. -/
namespace Go.Proofs.YtiidepafifodjaaDoor
open Go.RowKit

def IsDg (c : UInt8) : Prop := 48 ≤ c.toNat ∧ c.toNat ≤ 57
instance (c : UInt8) : Decidable (IsDg c) := by unfold IsDg; exact inferInstance
def valD : List UInt8 → Nat → Nat
  | [], a => a
  | c :: r, a => valD r (a * 10 + (c.toNat - 48))
theorem valD_app : ∀ (xs ys : List UInt8) (a : Nat), valD (xs ++ ys) a = valD ys (valD xs a)
  | [], _, _ => rfl
  | _ :: r, ys, _ => valD_app r ys _
theorem valD_ge : ∀ (xs : List UInt8) (a : Nat), a ≤ valD xs a
  | [], _ => Nat.le_refl _
  | c :: r, a => Nat.le_trans (by omega) (valD_ge r (a * 10 + (c.toNat - 48)))
theorem dg_of {i : Nat} (h : i < 10) : (UInt8.ofNat (48 + i)).toNat = 48 + i := by
  rw [UInt8.toNat_ofNat_of_lt']
  have : UInt8.size = 256 := rfl
  omega
theorem dec_small {u : Nat} (h : u < 10) : Lib.decDigits u = [UInt8.ofNat (48 + u)] := Lib.decDigits_one h
theorem dec_big {u : Nat} (h : ¬ u < 10) : Lib.decDigits u = Lib.decDigits (u / 10) ++ [UInt8.ofNat (48 + u % 10)] := by rw [Lib.decDigits, dif_neg h]
theorem dec_dg (u : Nat) : ∀ c ∈ Lib.decDigits u, IsDg c := by
  induction u using Nat.strongRecOn with
  | _ u ih =>
    intro c hc
    by_cases h : u < 10
    · rw [dec_small h] at hc
      rw [List.mem_singleton.1 hc]
      unfold IsDg
      rw [dg_of h]
      omega
    · rw [dec_big h] at hc
      rcases List.mem_append.1 hc with hc | hc
      · exact ih (u / 10) (by omega) c hc
      · rw [List.mem_singleton.1 hc]
        unfold IsDg
        rw [dg_of (show u % 10 < 10 by omega)]
        omega
theorem dec_val (u : Nat) : valD (Lib.decDigits u) 0 = u := by
  induction u using Nat.strongRecOn with
  | _ u ih =>
    by_cases h : u < 10
    · rw [dec_small h]
      simp only [valD, dg_of h]
      omega
    · rw [dec_big h, valD_app, ih (u / 10) (by omega)]
      simp only [valD, dg_of (show u % 10 < 10 by omega)]
      omega
theorem dec_ne (u : Nat) : Lib.decDigits u ≠ [] := by
  by_cases h : u < 10
  · rw [dec_small h]; simp
  · rw [dec_big h]; simp
theorem dec_len : ∀ (k u : Nat), u < 10 ^ (k + 1) → (Lib.decDigits u).length ≤ k + 1
  | 0, u, h => by rw [dec_small (by simpa using h)]; simp
  | k + 1, u, h => by
    by_cases c : u < 10
    · rw [dec_small c]; simp
    · rw [dec_big c, List.length_append]
      have := dec_len k (u / 10) (by rw [Nat.pow_succ] at h; omega)
      simp
      omega
theorem parse_dg : ∀ (l : List UInt8) (a : Nat), (∀ c ∈ l, IsDg c) → valD l a < 18446744073709551616 → Lib.parseUint10 a l = .ok (valD l a)
  | [], _, _, _ => rfl
  | c :: r, a, h, hv => by
    have hc : 48 ≤ c.toNat ∧ c.toNat ≤ 57 := h c (by simp)
    have hg := valD_ge r (a * 10 + (c.toNat - 48))
    have hv' : valD r (a * 10 + (c.toNat - 48)) < 18446744073709551616 := hv
    show (if 48 ≤ c.toNat ∧ c.toNat ≤ 57 then _ else _) = _
    rw [if_pos hc, if_neg (by omega), if_neg (by omega)]
    exact parse_dg r _ (fun x hx => h x (by simp [hx])) hv
theorem mag_dec {u : Nat} (h : u < 18446744073709551616) : Lib.parseMag (Lib.decDigits u) = .ok u := by
  unfold Lib.parseMag
  rw [if_neg (dec_ne u), parse_dg _ _ (dec_dg u) (by rw [dec_val]; exact h), dec_val]
theorem atoi_dec (n : Int) (h : I64r n) : Lib.atoiAll (decB n) = .ok n := by
  rw [decB_itoa n h]
  unfold I64r at h
  unfold Lib.itoa
  by_cases c : n < 0
  · rw [if_pos c, Lib.atoiAll_minus, mag_dec (by omega)]
    unfold Lib.signed
    dsimp only
    first
      | (rw [if_neg (by omega)]; congr 1; omega)
      | (split <;> first | (exfalso; omega) | (congr 1; omega))
  · rw [if_neg c]
    have hm := mag_dec (u := n.toNat) (by omega)
    have hd := dec_dg n.toNat
    cases hl : Lib.decDigits n.toNat with
    | nil => exact absurd hl (dec_ne _)
    | cons x r =>
      rw [hl] at hm hd
      have hx := hd x (by simp)
      unfold IsDg at hx
      rw [Lib.atoiAll_plain x r (by omega) (by omega), hm]
      unfold Lib.signless
      dsimp only
      first
        | (rw [if_neg (by omega)]; congr 1; omega)
        | (split <;> first | (exfalso; omega) | (congr 1; omega))

/-- the specification's way to read digits -/
def rdF (sg : Int) : List UInt8 → Int → Int
  | [], a => a
  | c :: r, a => rdF sg r (wrap64 (10 * a + sg * ((c.toNat : Int) - 48)))
theorem rdF_app (sg : Int) : ∀ (xs ys : List UInt8) (a : Int), rdF sg (xs ++ ys) a = rdF sg ys (rdF sg xs a)
  | [], _, _ => rfl
  | _ :: r, ys, _ => rdF_app sg r ys _
theorem wrap64_r (x : Int) : I64r (wrap64 x) := by
  unfold I64r
  simp only [wrap64]
  omega
theorem rdF_r (sg : Int) : ∀ (xs : List UInt8) (a : Int), I64r a → I64r (rdF sg xs a)
  | [], _, h => h
  | _ :: r, _, _ => rdF_r sg r _ (wrap64_r _)
theorem wrap64_id {x : Int} (h : I64r x) : wrap64 x = x := by
  unfold I64r at h
  simp only [wrap64]
  omega
theorem rdF_pos : ∀ (xs : List UInt8) (a : Nat), (∀ c ∈ xs, IsDg c) → (valD xs a : Int) ≤ 9223372036854775807 → rdF 1 xs (a : Int) = (valD xs a : Int)
  | [], _, _, _ => rfl
  | c :: r, a, h, hv => by
    have hc := h c (by simp)
    unfold IsDg at hc
    have hg := valD_ge r (a * 10 + (c.toNat - 48))
    have hv' : (valD r (a * 10 + (c.toNat - 48)) : Int) ≤ 9223372036854775807 := hv
    show rdF 1 r (wrap64 (10 * (a : Int) + 1 * ((c.toNat : Int) - 48))) = _
    rw [wrap64_id (by unfold I64r; omega), show 10 * (a : Int) + 1 * ((c.toNat : Int) - 48) = ((a * 10 + (c.toNat - 48) : Nat) : Int) by omega]
    exact rdF_pos r _ (fun x hx => h x (by simp [hx])) hv
theorem rdF_neg : ∀ (xs : List UInt8) (a : Nat), (∀ c ∈ xs, IsDg c) → (valD xs a : Int) ≤ 9223372036854775808 → rdF (-1) xs (-(a : Int)) = -(valD xs a : Int)
  | [], _, _, _ => rfl
  | c :: r, a, h, hv => by
    have hc := h c (by simp)
    unfold IsDg at hc
    have hg := valD_ge r (a * 10 + (c.toNat - 48))
    have hv' : (valD r (a * 10 + (c.toNat - 48)) : Int) ≤ 9223372036854775808 := hv
    show rdF (-1) r (wrap64 (10 * (-(a : Int)) + -1 * ((c.toNat : Int) - 48))) = _
    rw [wrap64_id (by unfold I64r; omega), show 10 * (-(a : Int)) + -1 * ((c.toNat : Int) - 48) = -((a * 10 + (c.toNat - 48) : Nat) : Int) by omega]
    exact rdF_neg r _ (fun x hx => h x (by simp [hx])) hv
theorem rdF_dec (n : Int) (h : I64r n) : rdF (if n < 0 then -1 else 1) (Lib.decDigits n.natAbs) 0 = n := by
  unfold I64r at h
  by_cases c : n < 0
  · rw [if_pos c, show (0 : Int) = -((0 : Nat) : Int) by simp, rdF_neg _ _ (dec_dg _) (by rw [dec_val]; omega), dec_val]
    omega
  · rw [if_neg c, show (0 : Int) = ((0 : Nat) : Int) by simp, rdF_pos _ _ (dec_dg _) (by rw [dec_val]; omega), dec_val]
    omega
/-- a told number: its sign, its digits -/
theorem numL_eq (n : Int) (h : I64r n) : numL n = (if n < 0 then [45] else []) ++ (Lib.decDigits n.natAbs ++ [32]) := by
  unfold numL
  rw [decB_itoa n h]
  unfold Lib.itoa
  by_cases c : n < 0
  · rw [if_pos c, if_pos c]; simp
  · rw [if_neg c, if_neg c, show n.natAbs = n.toNat by omega]; simp
theorem getD_drop (l : List UInt8) (q j : Nat) : (l.drop q).getD j 0 = l.getD (q + j) 0 := by simp [List.getD_eq_getElem?_getD]
/-- digits that a told number's reader has gone through -/
theorem digits_end {m : List UInt8} {u : Nat} {t : List UInt8} (h : m = Lib.decDigits u ++ 32 :: t) {j : Nat} (hu : (Lib.decDigits u).length ≤ 19) (hall : ∀ i, i < j → IsDg (m.getD i 0)) (hex : j = 19 ∨ m.length ≤ j ∨ ¬ IsDg (m.getD j 0)) :
    j = (Lib.decDigits u).length ∧ m.getD j 0 = 32 ∧ j < m.length ∧ m.take j = Lib.decDigits u := by
  have hlen : m.length = (Lib.decDigits u).length + 1 + t.length := by rw [h]; simp; omega
  have hat : m.getD (Lib.decDigits u).length 0 = 32 := by rw [h]; simp
  have h1 : j ≤ (Lib.decDigits u).length := by
    apply Nat.le_of_not_lt
    intro c
    have := hall _ c
    rw [hat] at this
    revert this
    decide
  have h2 : ¬ j < (Lib.decDigits u).length := by
    intro c
    rcases hex with e | e | e
    · omega
    · omega
    · apply e
      have hm : m.getD j 0 = (Lib.decDigits u)[j] := by rw [h]; simp [List.getD_eq_getElem?_getD, List.getElem?_append_left c, List.getElem?_eq_getElem c]
      rw [hm]
      exact dec_dg u _ (List.getElem_mem c)
  have h3 : j = (Lib.decDigits u).length := by omega
  subst h3
  exact ⟨rfl, hat, by omega, by rw [h]; simp⟩
end Go.Proofs.YtiidepafifodjaaDoor
