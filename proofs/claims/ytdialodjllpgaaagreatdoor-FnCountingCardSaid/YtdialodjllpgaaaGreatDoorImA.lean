import Derived.Test.YtdialodjllpgaaaGreatDoorSpU
import Derived.Test.YtdialodjllpgaaaGreatDoorFitP
import Derived.Deep.AppendLies
/-! The program's check of a unit: small functions. -/
namespace Go.Proofs.YtdialodjllpgaaaGreatDoor
open Go.RowKit
attribute [local go_sem] run_store_float
attribute [local go_sem ↓] Go.wp_at_zero Go.wp_at_succ

def btB (i l m : Int) : Bool := decide (l ≤ i) && decide (i ≤ m)
def wiB (i m : Int) : Bool := decide (0 ≤ i) && decide (i < m)
set_option maxRecDepth 100000 in
set_option maxHeartbeats 2000000 in
theorem between_calls (i l m : Int) (w : World) : Calls Tryz.prog 42 #[.int .i64 i, .int .i64 l, .int .i64 m] w fun e w' => e = .returned (.bool (btB i l m)) ∧ w' = w := by
  go_enter Tryz.func42, Tryz.ntmps42
  go_wp2_with fail
  all_goals go_ret
  all_goals exact ⟨by simp [btB, *] <;> (intros; omega), rfl⟩
set_option maxRecDepth 100000 in
set_option maxHeartbeats 2000000 in
theorem within_calls (i m : Int) (w : World) : Calls Tryz.prog 139 #[.int .i64 i, .int .i64 m] w fun e w' => e = .returned (.bool (wiB i m)) ∧ w' = w := by
  go_enter Tryz.func139, Tryz.ntmps139
  go_wp2_with fail
  all_goals go_ret
  all_goals exact ⟨by simp [wiB, *] <;> (intros; omega), rfl⟩
theorem u64_wrap_id {x : Int} (h0 : 0 ≤ x) (h1 : x < 18446744073709551616) : IntKind.u64.wrap x = x := by
  simp only [IntKind.wrap_u64]
  omega
theorem and_one (m : Nat) (hm : m < 18446744073709551616) : bits .and .u64 (m : Int) 1 = ((m % 2 : Nat) : Int) := by
  have hb : bits .and .u64 (m : Int) 1 = IntKind.u64.wrap (((BitVec.ofInt 64 (m : Int)) &&& (BitVec.ofInt 64 1)).toNat : Int) := rfl
  rw [hb]
  have h1 : (BitVec.ofInt 64 (m : Int)).toNat = m := by simp; omega
  have h2 : ((BitVec.ofInt 64 (m : Int)) &&& (BitVec.ofInt 64 1)).toNat = m % 2 := by
    rw [BitVec.toNat_and, h1]
    show m &&& 1 = m % 2
    exact Nat.and_one_is_mod m
  rw [h2, u64_wrap_id (by omega) (by omega)]
theorem bit_as {s : Nat} (hs : s < 18446744073709551616) {k : Int} : (bits .and .u64 ((s : Int) / 2 ^ min k.toNat 64) 1 == 1) = Nat.testBit s k.toNat := by
  have hd : ((s : Int) / 2 ^ min k.toNat 64) = ((s / 2 ^ min k.toNat 64 : Nat) : Int) := by simp
  rw [hd, and_one _ (Nat.lt_of_le_of_lt (Nat.div_le_self _ _) hs)]
  by_cases h : k.toNat ≤ 64
  · rw [Nat.min_eq_left h, Nat.testBit_eq_decide_div_mod_eq]
    rw [Bool.eq_iff_iff, beq_iff_eq, decide_eq_true_eq]
    omega
  · rw [Nat.min_eq_right (by omega), bit_far (by omega) (by omega), Nat.div_eq_of_lt (by omega)]
    rfl
set_option maxRecDepth 100000 in
set_option maxHeartbeats 2000000 in
theorem has_calls (s : Nat) (hs : s < 18446744073709551616) (k : Int) (w : World) : Calls Tryz.prog 121 #[.int .u64 (s : Int), .int .i64 k] w fun e w' => e = .returned (.bool (setB s k)) ∧ w' = w := by
  by_cases h0 : 0 ≤ k
  · go_enter Tryz.func121, Tryz.ntmps121
    go_wp2_with fail
    go_ret
    refine ⟨ret_bool ?_, rfl⟩
    rw [bit_as hs]
    unfold setB
    simp [h0]
  · go_enter Tryz.func121, Tryz.ntmps121
    go_wp2_with fail
    go_ret
    refine ⟨ret_bool ?_, rfl⟩
    unfold setB
    simp
    omega

set_option maxRecDepth 100000 in
set_option maxHeartbeats 8000000 in
theorem lineFits_calls (d : ND) (x : NA) (w : World) : Calls Tryz.prog 122 #[nodeV d x] w fun e w' => e = .returned (.bool (if stK d.k then decide (1 ≤ d.l) && decide (d.l ≤ 100000) else d.l == 0)) ∧ Below w.heap.size w w' := by
  cases hst : stK d.k
  · have hs2 : setB 32766 d.k = false := (setSt d.k).trans hst
    go_enter Tryz.func122, Tryz.ntmps122
    go_wp2_with (go_at_call 121; refine (has_calls 32766 (by decide) _ _).mono ?_; rw [hs2]; rintro e w1 ⟨rfl, rfl⟩)
    go_ret
    exact ⟨rfl, below_alloc _ _⟩
  · have hs2 : setB 32766 d.k = true := (setSt d.k).trans hst
    go_enter Tryz.func122, Tryz.ntmps122
    go_wp2_with (first | (go_at_call 121; refine (has_calls 32766 (by decide) _ _).mono ?_; rw [hs2]; rintro e w1 ⟨rfl, rfl⟩) | (go_at_call 42; refine (between_calls _ _ _ _).mono ?_; rintro e w1 ⟨rfl, rfl⟩))
    go_ret
    exact ⟨rfl, below_alloc _ _⟩

end Go.Proofs.YtdialodjllpgaaaGreatDoor

/-! The program's check of a unit: kids held against sets of kinds. -/
namespace Go.Proofs.YtdialodjllpgaaaGreatDoor
open Go.RowKit
attribute [local go_sem] run_store_float
attribute [local go_sem ↓] Go.wp_at_zero Go.wp_at_succ

/-- the nodes ahead, as the visitor at F has them -/
structure AH (w : World) (F m : Nat) (nd : Nat → ND) (nas : Nat → NA) : Prop where
  at' : ∃ na nc, w.cell? ⟨F, 0, none⟩ = some (.slice na m nc) ∧ RowN 8 0 w na m (fun i => nodeC (nd i) (nas i))
theorem AH.below {w w' : World} {F m : Nat} {nd : Nat → ND} {nas : Nat → NA} (h : AH w F m nd nas) (hb : Below w.heap.size w w') : AH w' F m nd nas := by
  obtain ⟨na, nc, h1, h2⟩ := h.at'
  exact ⟨na, nc, cell_later hb h1, h2.below hb⟩
theorem kidS_in {s : Nat} {nd : Nat → ND} {m : Nat} {c : Int} {k : Nat} (h : c = k) (hk : k < m) : kidS s nd m c = setB s (nd k).k := by
  unfold kidS
  subst h
  simp [hk]
theorem kidS_out {s : Nat} {nd : Nat → ND} {m : Nat} {c : Int} (h : ¬ (0 ≤ c ∧ c < m)) : kidS s nd m c = false := by
  unfold kidS
  by_cases h0 : 0 ≤ c
  · have : ¬ c < m := fun h1 => h ⟨h0, h1⟩
    simp [this]
  · simp [h0]

set_option maxRecDepth 100000 in
set_option maxHeartbeats 4000000 in
theorem allI_calls (F m : Nat) (nd : Nat → ND) (nas : Nat → NA) (a : Option Addr) (n cap : Nat) (c : Nat → Int) (s : Nat) (w : World) (hs : s < 18446744073709551616) (hn : n ≤ 1048576) (hA : AH w F m nd nas) (hT : IntsAt 0 w a n c) :
    Calls Tryz.prog 154 #[.pointer (some ⟨F, 0, none⟩), .slice a n cap, .int .u64 (s : Int)] w fun e w' => e = .returned (.bool (allB (fun i => kidS s nd m (c i)) 0 n)) ∧ w' = w := by
  have HT : Hid (RowN 1 0 w a n fun i => #[.int .i64 (c i)]) := hT
  obtain ⟨na, nc, f0, hN⟩ := hA.at'
  have HN : Hid (RowN 8 0 w na m (fun i => nodeC (nd i) (nas i))) := hN
  clear hT hA hN
  go_enter Tryz.func154, Tryz.ntmps154
  go_wp2_with fail
  go_loopw [11] (fun i wr => ∃ (k : Nat), k ≤ n ∧ i = .int .i64 k ∧ Hid (∀ j, j < k → kidS s nd m (c j) = true) ∧ wr = w) (fun i _ => n - (intOf i).toNat)
  case atStart => exact ⟨0, Nat.zero_le _, rfl, fun j hj => by omega, rfl⟩
  case round =>
    obtain ⟨k, hk, rfl, HK, rfl⟩ := hrel
    by_cases hkn : k < n
    · obtain ⟨b, off, rfl, _, hb, d0⟩ := cells1 HT.out hkn
      by_cases hin : 0 ≤ c k ∧ c k < m
      · obtain ⟨y, hy⟩ : ∃ y : Nat, c k = y := ⟨(c k).toNat, by omega⟩
        have hym : y < m := by omega
        have hks : kidS s nd m (c k) = setB s (nd y).k := kidS_in hy hym
        have HKS : Hid (kidS s nd m (c k) = setB s (nd y).k) := hks
        rw [hy] at d0
        obtain ⟨b2, o2, rfl, _, hb2, g0, _⟩ := cells8 HN.out hym
        have hw : wiB (y : Int) (m : Int) = true := by unfold wiB; simp; omega
        clear hks hin hy
        cases hset : setB s (nd y).k
        · have hv : allB (fun i => kidS s nd m (c i)) 0 n = false := allB_no (Nat.zero_le _) hkn (HKS.out.trans hset)
          have HV : Hid (allB (fun i => kidS s nd m (c i)) 0 n = false) := hv
          clear hv
          go_wp2_with (first | (go_at_call 139; refine (within_calls _ _ _).mono ?_; rw [hw]; rintro e w1 ⟨rfl, rfl⟩) | (go_at_call 121; refine (has_calls s hs _ _).mono ?_; rw [hset]; rintro e w1 ⟨rfl, rfl⟩))
          go_ret
          exact ⟨ret_bool HV.out.symm, rfl⟩
        · have HV : Hid (kidS s nd m (c k) = true) := HKS.out.trans hset
          go_wp2_with (first | (go_at_call 139; refine (within_calls _ _ _).mono ?_; rw [hw]; rintro e w1 ⟨rfl, rfl⟩) | (go_at_call 121; refine (has_calls s hs _ _).mono ?_; rw [hset]; rintro e w1 ⟨rfl, rfl⟩))
          go_roundw
          case rel => exact ⟨k + 1, by omega, by go_num, fun j hj => by
            by_cases e : j = k
            · subst e; exact HV.out
            · exact HK.out j (by omega), by first | rfl | trivial⟩
          case measure => simp [intOf]; omega
      · have hv : allB (fun i => kidS s nd m (c i)) 0 n = false := allB_no (Nat.zero_le _) hkn (kidS_out hin)
        have HV : Hid (allB (fun i => kidS s nd m (c i)) 0 n = false) := hv
        have hw : wiB (c k) (m : Int) = false := by unfold wiB; simp; omega
        clear hv hin
        go_wp2_with (go_at_call 139; refine (within_calls _ _ _).mono ?_; rw [hw]; rintro e w1 ⟨rfl, rfl⟩)
        go_ret
        exact ⟨ret_bool HV.out.symm, rfl⟩
    · have HV : Hid (allB (fun i => kidS s nd m (c i)) 0 n = true) := allB_true.2 fun i _ hi => HK.out i (by omega)
      go_wp2_with fail
      go_ret
      exact ⟨ret_bool HV.out.symm, rfl⟩

theorem ints_sub {w : World} {a : Option Addr} {n : Nat} {c : Nat → Int} (h : IntsAt 0 w a n c) {b o : Nat} (e : a = some ⟨b, o, none⟩) (i j : Nat) (hij : i + j ≤ n) : IntsAt 0 w (some ⟨b, o + i, none⟩) j (fun k => c (i + k)) := fun hj => by
  obtain ⟨b', o', e', _, h1, h2⟩ := h (by omega)
  obtain ⟨rfl, rfl⟩ : b = b' ∧ o = o' := by rw [e] at e'; simpa using e'
  refine ⟨b, o + i, rfl, Nat.zero_le _, h1, fun k hk l hl => ?_⟩
  have := h2 (i + k) (by omega) l hl
  rw [← this]
  congr 2
  omega

set_option maxRecDepth 100000 in
set_option maxHeartbeats 4000000 in
theorem row_calls (F m : Nat) (nd : Nat → ND) (nas : Nat → NA) (a : Option Addr) (n cap : Nat) (c : Nat → Int) (R j : Nat) (s : Nat → Nat) (w : World) (hs : ∀ i, i < j → s i < 18446744073709551616) (hn : n ≤ 1048576) (hj : j ≤ 4) (hcap : n ≤ cap) (hA : AH w F m nd nas) (hT : IntsAt 0 w a n c) (hR : ∀ i, i < j → w.cell? ⟨R, i, none⟩ = some (.int .u64 (s i : Int))) :
    Calls Tryz.prog 155 #[.pointer (some ⟨F, 0, none⟩), .slice a n cap, .slice (some ⟨R, 0, none⟩) j j] w fun e w' => e = .returned (.bool ((n : Int) == j && allB (fun i => kidS (s i) nd m (c i)) 0 j)) ∧ w' = w := by
  have HT : Hid (IntsAt 0 w a n c) := hT
  have HA : Hid (AH w F m nd nas) := hA
  have HR : Hid (∀ i, i < j → w.cell? ⟨R, i, none⟩ = some (.int .u64 (s i : Int))) := hR
  have HS : Hid (∀ i, i < j → s i < 18446744073709551616) := hs
  clear hT hA hR hs
  by_cases hnj : n = j
  · subst hnj
    have he : ((n : Int) == n && allB (fun i => kidS (s i) nd m (c i)) 0 n) = allB (fun i => kidS (s i) nd m (c i)) 0 n := by simp
    rw [he]
    clear he
    go_enter Tryz.func155, Tryz.ntmps155
    go_wp2_with fail
    go_loopw [16] (fun i wr => ∃ (k : Nat), k ≤ n ∧ i = .int .i64 k ∧ Hid (∀ j, j < k → kidS (s j) nd m (c j) = true) ∧ wr = w) (fun i _ => n - (intOf i).toNat)
    case atStart => exact ⟨0, Nat.zero_le _, rfl, fun j hj => by omega, rfl⟩
    case round =>
      obtain ⟨k, hk, rfl, HK, rfl⟩ := hrel
      by_cases hkn : k < n
      · have r0 := HR.out k hkn
        obtain ⟨b, off, rfl, _, hb, d0⟩ := cells1 HT.out hkn
        have HI : Hid (IntsAt 0 wr (some ⟨b, off + k, none⟩) 1 (fun i => c (k + i))) := ints_sub HT.out rfl k 1 (by omega)
        have hone : allB (fun i => kidS (s k) nd m (c (k + i))) 0 1 = kidS (s k) nd m (c k) := by
          rw [Bool.eq_iff_iff, allB_true]
          exact ⟨fun h => h 0 (Nat.le_refl _) (by omega), fun h i _ hi => by obtain rfl : i = 0 := by omega
                                                                             exact h⟩
        clear d0
        cases hks : kidS (s k) nd m (c k)
        · have HV : Hid (allB (fun i => kidS (s i) nd m (c i)) 0 n = false) := allB_no (Nat.zero_le _) hkn hks
          rw [hks] at hone
          go_wp2_with (go_at_call 154; refine (allI_calls F m nd nas _ _ _ (fun i => c (k + i)) (s k) _ (HS.out k hkn) (by omega) HA.out HI.out).mono ?_; rw [hone]; rintro e w1 ⟨rfl, rfl⟩)
          go_ret
          exact ⟨ret_bool HV.out.symm, rfl⟩
        · have HV : Hid (kidS (s k) nd m (c k) = true) := hks
          rw [hks] at hone
          go_wp2_with (go_at_call 154; refine (allI_calls F m nd nas _ _ _ (fun i => c (k + i)) (s k) _ (HS.out k hkn) (by omega) HA.out HI.out).mono ?_; rw [hone]; rintro e w1 ⟨rfl, rfl⟩)
          go_roundw
          case rel => exact ⟨k + 1, by omega, by go_num, fun j hj => by
            by_cases e : j = k
            · subst e; exact HV.out
            · exact HK.out j (by omega), by first | rfl | trivial⟩
          case measure => simp [intOf]; omega
      · have HV : Hid (allB (fun i => kidS (s i) nd m (c i)) 0 n = true) := allB_true.2 fun i _ hi => HK.out i (by omega)
        go_wp2_with fail
        go_ret
        exact ⟨ret_bool HV.out.symm, rfl⟩
  · have he : ((n : Int) == j && allB (fun i => kidS (s i) nd m (c i)) 0 j) = false := by
      have : ((n : Int) == j) = false := by simp; omega
      rw [this]; rfl
    rw [he]
    have q : ((n : Int) != (j : Int)) = true := by simp; omega
    clear he
    go_enter Tryz.func155, Tryz.ntmps155
    go_wp2_with fail
    go_ret
    exact ⟨rfl, rfl⟩
end Go.Proofs.YtdialodjllpgaaaGreatDoor

/-! Tables: an indexed table of one's own, changed in place. -/
namespace Go.Proofs.YtdialodjllpgaaaGreatDoor
open Go.RowKit
attribute [local go_sem] run_store_float
attribute [local go_sem ↓] Go.wp_at_zero Go.wp_at_succ

/-- block X, at or above N, holds an indexed table whose pairs lie in a row of one's own -/
structure XO (N : Nat) (w : World) (X : Nat) (a : Option Addr) (n cap B : Nat) (t : Int) (q : Nat → PD) (L : List (Mk × Nat)) : Prop where
  lo : N ≤ X
  lt : X < w.heap.size
  c0 : w.cell? ⟨X, 0, none⟩ = some (.slice a n cap)
  c1 : w.cell? ⟨X, 1, none⟩ = some (.map (some B))
  c2 : w.cell? ⟨X, 2, none⟩ = some (.int .i64 t)
  fr : ∀ o, w.frozen? ⟨X, o, none⟩ = false
  own : w.ownsRow N 277 11 (.slice a n cap) n (cellsOf q n)
  map : MapIs w B L
  bl : N ≤ B
  ne : ∀ b off sp, a = some ⟨b, off, sp⟩ → b ≠ X
theorem own_below {N : Nat} {u w : World} {v : Value} {n : Nat} {xs : List Value} {T : TypeId} (h : u.ownsRow N T 11 v n xs) (hb : Below u.heap.size u w) : w.ownsRow N T 11 v n xs := by
  obtain ⟨h1, h2⟩ := h
  refine ⟨h1, ?_⟩
  rcases h2 with h2 | ⟨g, cap, cur, e, h3, hh, r⟩
  · exact .inl h2
  · exact .inr ⟨g, cap, cur, e, h3, (hb.block g (Array.getElem?_eq_some_iff.1 hh).1).trans hh, r⟩
theorem XO.call {N : Nat} {u w : World} {X : Nat} {a : Option Addr} {n cap B : Nat} {t : Int} {q : Nat → PD} {L : List (Mk × Nat)} (h : XO N u X a n cap B t q L) (hb : Below u.heap.size u w) : XO N w X a n cap B t q L :=
  ⟨h.lo, Nat.lt_of_lt_of_le h.lt hb.size, (hb.cell (p := ⟨X, 0, none⟩) h.lt).trans h.c0, (hb.cell (p := ⟨X, 1, none⟩) h.lt).trans h.c1, (hb.cell (p := ⟨X, 2, none⟩) h.lt).trans h.c2, fun o => (hb.frozen (p := ⟨X, o, none⟩) h.lt).trans (h.fr o), own_below h.own hb, h.map.below hb, h.bl, h.ne⟩
theorem XO.drew {N : Nat} {w : World} {X : Nat} {a : Option Addr} {n cap B : Nat} {t : Int} {q : Nat → PD} {L : List (Mk × Nat)} (h : XO N w X a n cap B t q L) : XO N w.drew X a n cap B t q L := ⟨h.lo, h.lt, h.c0, h.c1, h.c2, h.fr, h.own, h.map, h.bl, h.ne⟩
theorem XO.alloc {N : Nat} {w : World} {X : Nat} {a : Option Addr} {n cap B : Nat} {t : Int} {q : Nat → PD} {L : List (Mk × Nat)} (h : XO N w X a n cap B t q L) (o : Obj) : XO N (w.alloc o) X a n cap B t q L := h.call (below_alloc w o)

theorem own_set {N : Nat} {w : World} {X : Nat} {a : Option Addr} {n cap : Nat} {xs : List Value} {T : TypeId} (h : w.ownsRow N T 11 (.slice a n cap) n xs) (hne : ∀ b off sp, a = some ⟨b, off, sp⟩ → b ≠ X) (o : Nat) (v : Value) : (w.setCell ⟨X, o, none⟩ v).ownsRow N T 11 (.slice a n cap) n xs := by
  obtain ⟨h1, h2⟩ := h
  refine ⟨h1, ?_⟩
  rcases h2 with h2 | ⟨g, cap', cur, e, h3, hh, r⟩
  · exact .inl h2
  · cases e
    exact .inr ⟨g, cap, cur, rfl, h3, (Below.heap_setCell w ⟨X, o, none⟩ v g (hne g 0 none rfl)).trans hh, r⟩
theorem mapIs_ne {w : World} {B X o : Nat} {v : Value} {L : List (Mk × Nat)} (h : MapIs w B L) (hc : w.cell? ⟨X, o, none⟩ = some v) : B ≠ X := fun e => by
  subst e
  obtain ⟨es, c, hb, _⟩ := h
  simp [World.cell?, hb] at hc
theorem mapIs_set {w : World} {B : Nat} {L : List (Mk × Nat)} (h : MapIs w B L) {a : Addr} (hne : B ≠ a.block) (v : Value) : MapIs (w.setCell a v) B L := by
  obtain ⟨es, c, hb, e⟩ := h
  exact ⟨es, c, (Below.heap_setCell w a v B hne).trans hb, e⟩
theorem XO.setT {N : Nat} {w : World} {X : Nat} {a : Option Addr} {n cap B : Nat} {t : Int} {q : Nat → PD} {L : List (Mk × Nat)} (h : XO N w X a n cap B t q L) (s : Int) : XO N (w.setCell ⟨X, 2, none⟩ (.int .i64 s)) X a n cap B s q L :=
  ⟨h.lo, by have := h.lt; simpa using this, by simp [go_sem, h.c0], by simp [go_sem, h.c1], by simp [go_sem, h.c2], fun o => by simp [go_sem, h.fr o], own_set h.own h.ne 2 _, mapIs_set h.map (a := ⟨X, 2, none⟩) (mapIs_ne h.map h.c0) _, h.bl, h.ne⟩
theorem turned_cell {w w' : World} {b : Nat} (h : w.mapTurned w' b) (p : Addr) : w'.cell? p = w.cell? p := by
  obtain ⟨es, c, es', c', hb, rfl⟩ := h
  unfold World.cell?
  by_cases e : p.block = b
  · rw [e, Go.ChangeMaps.heap_setBlock_same hb, hb]
  · rw [Go.ChangeMaps.heap_setBlock_other hb _ e]
theorem XO.turned {N : Nat} {w w' : World} {X : Nat} {a : Option Addr} {n cap B : Nat} {t : Int} {q : Nat → PD} {L L' : List (Mk × Nat)} (h : XO N w X a n cap B t q L) (hM : MapIs w' B L') (ht : w.mapTurned w' B) : XO N w' X a n cap B t q L' := by
  refine ⟨h.lo, Nat.lt_of_lt_of_le h.lt ht.grown.size, (turned_cell ht _).trans h.c0, (turned_cell ht _).trans h.c1, (turned_cell ht _).trans h.c2, fun o => (ht.frozen _).trans (h.fr o), ?_, hM, h.bl, h.ne⟩
  obtain ⟨h1, h2⟩ := h.own
  refine ⟨h1, ?_⟩
  rcases h2 with h2 | ⟨g, cap', cur, e, h3, hh, r⟩
  · exact .inl h2
  · refine .inr ⟨g, cap', cur, e, h3, (ht.grown.block g (Array.getElem?_eq_some_iff.1 hh).1 ?_).trans hh, r⟩
    intro e2
    cases e2
    obtain ⟨es, c, hb, _⟩ := h.map
    rw [hb] at hh; cases hh

end Go.Proofs.YtdialodjllpgaaaGreatDoor
