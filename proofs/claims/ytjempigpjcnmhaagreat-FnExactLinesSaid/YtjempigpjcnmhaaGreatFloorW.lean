import Derived.Test.YtjempigpjcnmhaaGreatPlain
import Derived.Test.YtjempigpjcnmhaaGreatFloor
import Derived.Laws.Externs
import Derived.Test.YtjempigpjcnmhaaGreatFitQ
import Derived.Test.YtjempigpjcnmhaaGreatImC
/-! spec.l1nan, spec.l1floor, math.IsNaN, math.Floor. -/
namespace Go.Proofs.YtjempigpjcnmhaaGreat
open Go.RowKit

abbrev two63 : Nat := 4890909195324358656
abbrev ntwo63 : Nat := 14114281232179134464
abbrev oneW : Nat := 4607182418800017408

theorem big_gen {a b c d M : Nat} (h : a + b = c) (h' : d ≤ c) (hM : ¬ M < 2 ^ a * 2 ^ b) : 2 ^ d ≤ M := by
  rw [← Fl.pow_split h] at hM
  exact Nat.le_trans (Fl.pow_le h') (Nat.le_of_not_lt hM)
theorem ti_form (f : Nat) : ∃ A : Bool → Nat → Sem Value, Extern.MathFloor.toIntegral "math.archFloor" .down #[.float .f64 f] = (match FloatKind.f64.decode f with | .nan s t => A s t | d => pure (.float .f64 (FloatKind.f64.encode (d.integral .down)))) := ⟨_, rfl⟩
theorem floorW_whole' (K : Nat) (hK : K = 2 ^ 1074) {x : Nat} {s : Bool} {M : Nat} (hx : Fl.Fin3 x s M) (he : x = Fl.enc s M) (h : M % K = 0) : Fl.floorW x = x := by
  rw [hK] at h
  exact Fl.floorW_whole hx he h
theorem floorW_zero {x : Nat} {s : Bool} (hx : Fl.Fin3 x s 0) (he : x = Fl.enc s 0) : Fl.floorW x = x := by
  obtain ⟨K, hK⟩ : ∃ K, K = 2 ^ 1074 := ⟨_, rfl⟩
  exact floorW_whole' K hK hx he (Nat.zero_mod K)
theorem cmp_lo (s : Bool) (M E : Nat) (h : M < E) : compare (Fl.sv s M) (Fl.sv false E) = .lt := by
  refine Int.compare_eq_lt.2 ?_
  cases s <;> simp [Fl.sv] <;> omega
theorem cmp_hi (s : Bool) (M E : Nat) (h : M < E) : compare (Fl.sv s M) (Fl.sv true E) = .gt := by
  refine Int.compare_eq_gt.2 ?_
  cases s <;> simp [Fl.sv] <;> omega
theorem cmp_ge (M E : Nat) (h : E ≤ M) : compare (Fl.sv false M) (Fl.sv false E) ≠ .lt := by
  intro h'
  have := Int.compare_eq_lt.1 h'
  simp [Fl.sv] at this; omega
theorem cmp_neg (M E : Nat) (h : M ≠ 0) : compare (Fl.sv true M) (Fl.sv false E) = .lt := by
  refine Int.compare_eq_lt.2 ?_
  simp [Fl.sv]; omega
theorem cmp_le (M E : Nat) (h : E ≤ M) : compare (Fl.sv true M) (Fl.sv true E) ≠ .gt := by
  intro h'
  have := Int.compare_eq_gt.1 h'
  simp [Fl.sv] at this; omega

/-- where a float that is no NaN stands to 0 and the two bounds, and what its floor is there -/
theorem ord_cases {f : Nat} (hf : f < 2 ^ 64) (hn : FloatKind.f64.format.order f f ≠ none) :
    (FloatKind.f64.format.order f 0 = some .eq ∧ Fl.floorW f = f) ∨
    (∃ c d, FloatKind.f64.format.order f 0 = some c ∧ c ≠ .eq ∧ FloatKind.f64.format.order f two63 = some d ∧ d ≠ .lt ∧ Fl.floorW f = f) ∨
    (∃ c d, FloatKind.f64.format.order f 0 = some c ∧ c ≠ .eq ∧ FloatKind.f64.format.order f two63 = some .lt ∧ FloatKind.f64.format.order f ntwo63 = some d ∧ d ≠ .gt ∧ Fl.floorW f = f) ∨
    (∃ c n, FloatKind.f64.format.order f 0 = some c ∧ c ≠ .eq ∧ FloatKind.f64.format.order f two63 = some .lt ∧ FloatKind.f64.format.order f ntwo63 = some .gt ∧
      floatToIntVal .f64 f .i64 = some n ∧ ((FloatKind.f64.format.order (floatOfInt .f64 n) f ≠ some .gt ∧ floatOfInt .f64 n = Fl.floorW f) ∨ (FloatKind.f64.format.order (floatOfInt .f64 n) f = some .gt ∧ floatBits .sub .f64 (floatOfInt .f64 n) oneW = some (Fl.floorW f)))) := by
  have hn' : Ieee.double.order f f ≠ none := hn
  show (Ieee.double.order f 0 = _ ∧ _) ∨ (∃ c d, Ieee.double.order f 0 = _ ∧ _ ∧ Ieee.double.order f two63 = _ ∧ _ ∧ _) ∨ (∃ c d, Ieee.double.order f 0 = _ ∧ _ ∧ Ieee.double.order f two63 = _ ∧ Ieee.double.order f ntwo63 = _ ∧ _ ∧ _) ∨ (∃ c n, Ieee.double.order f 0 = _ ∧ _ ∧ Ieee.double.order f two63 = _ ∧ Ieee.double.order f ntwo63 = _ ∧ _ ∧ ((Ieee.double.order _ f ≠ _ ∧ _) ∨ (Ieee.double.order _ f = _ ∧ _)))
  rcases Fl.sort3 hf with ⟨s, M, hx, hr, he⟩ | ⟨s, hr, he⟩ | ⟨s, t, hr⟩
  · rw [Fl.order_fin hx Fl.fin_zero, Fl.order_fin hx Fl.fin_two63, Fl.order_fin hx Fl.fin_ntwo63]
    by_cases h0 : M = 0
    · left
      subst h0
      refine ⟨?_, floorW_zero hx he⟩
      exact congrArg some (Int.compare_eq_eq.2 (by cases s <;> simp [Fl.sv]))
    · have hc : compare (Fl.sv s M) (Fl.sv false 0) ≠ .eq := by
        intro h
        have := Int.compare_eq_eq.1 h
        cases s <;> simp [Fl.sv] at this <;> exact h0 this
      right
      by_cases hb : M < 2 ^ 63 * 2 ^ 1074
      · right; right
        obtain ⟨n, g1, g2⟩ := Fl.l1floor_mid hx hr h0 hb
        exact ⟨_, n, rfl, hc, congrArg some (cmp_lo s _ _ hb), congrArg some (cmp_hi s _ _ hb), g1, g2⟩
      · have hw : Fl.floorW f = f := Fl.floorW_whole hx he (Fl.rep_big hr (big_gen (a := 63) (b := 1074) (c := 1137) (d := 1127) rfl (by decide) hb))
        have hb' := Nat.le_of_not_lt hb
        cases s
        · left
          exact ⟨_, _, rfl, hc, rfl, cmp_ge _ _ hb', hw⟩
        · right; left
          exact ⟨_, _, rfl, hc, congrArg some (cmp_neg _ _ h0), rfl, cmp_le _ _ hb', hw⟩
  · obtain ⟨m0, i0, z1, _, _⟩ := Fl.fin_zero
    obtain ⟨m1, i1, z2, _, _⟩ := Fl.fin_two63
    obtain ⟨m2, i2, z3, _, _⟩ := Fl.fin_ntwo63
    have hw := Fl.floorW_inf hr he
    unfold Ieee.Format.order
    rw [hr, z1, z2, z3]
    right
    cases s
    · left; exact ⟨.gt, .gt, rfl, by decide, rfl, by decide, hw⟩
    · right; left; exact ⟨.lt, .lt, rfl, by decide, rfl, rfl, by decide, hw⟩
  · exfalso
    refine hn' ?_
    unfold Ieee.Format.order
    rw [hr]; rfl

set_option maxRecDepth 100000 in
set_option maxHeartbeats 1000000 in
theorem isNaN_calls (f : Nat) (w : World) : Calls Tryz.prog 140 #[.float .f64 f] w fun e w' => e = .returned (.bool (FloatKind.f64.format.order f f != some .eq)) ∧ w' = w := by
  go_enter Tryz.func140, Tryz.ntmps140; go_wp2
  go_ret; exact ⟨rfl, rfl⟩

end Go.Proofs.YtjempigpjcnmhaaGreat

/-! The program's check of a unit: forms. -/
namespace Go.Proofs.YtjempigpjcnmhaaGreat
open Go.RowKit
attribute [local go_sem] run_store_float
attribute [local go_sem ↓] Go.wp_at_zero Go.wp_at_succ

set_option maxRecDepth 100000 in
set_option maxHeartbeats 8000000 in
theorem fo_block (F m : Nat) (nd : Nat → ND) (nas : Nat → NA) (w : World) (hA : AH w F m nd nas) (hN : NodeAt 0 w (nd m) (nas m)) (hs : (nd m).sm) (_hcap : (nd m).kn ≤ (nas m).kc) :
    Calls Tryz.prog 71 #[.pointer (some ⟨F, 0, none⟩), nodeV (nd m) (nas m)] w fun e w' => e = .returned (.bool (uoB (nd m) false false false false false true && (allS sSt nd m 0 (nd m).kn))) ∧ Below w.heap.size w w' := by
  have HA : Hid (AH w F m nd nas) := hA
  have HN : Hid (NodeAt 0 w (nd m) (nas m)) := hN
  have hkn := hs.kn
  have hrn := hs.rn
  have hsz := hs.s
  clear hA hN hs
  go_enter Tryz.func71, Tryz.ntmps71
  go_wp2_with (first | (go_at_call 137; refine (uo32_calls (nd m) (nas m) _).mono ?_; rintro e w2 ⟨rfl, hb2⟩; have HB2 : Hid (Below w.heap.size w w2) := below_call (below_alloc _ _) hb2; have n2 : w2.cell? ⟨w.heap.size, 2, none⟩ = some (.int .i64 (nd m).o) := (Has.made hb2).cell 2 rfl; have n3 : w2.cell? ⟨w.heap.size, 3, none⟩ = some (.int .i64 (nd m).n) := (Has.made hb2).cell 3 rfl; have n4 : w2.cell? ⟨w.heap.size, 4, none⟩ = some (.float .f64 (nd m).f) := (Has.made hb2).cell 4 rfl; have n5 : w2.cell? ⟨w.heap.size, 5, none⟩ = some (.string (nd m).s) := (Has.made hb2).cell 5 rfl; have n6 : w2.cell? ⟨w.heap.size, 6, none⟩ = some (.slice (nas m).ra (nd m).rn (nas m).rc) := (Has.made hb2).cell 6 rfl; have n7 : w2.cell? ⟨w.heap.size, 7, none⟩ = some (.slice (nas m).ka (nd m).kn (nas m).kc) := (Has.made hb2).cell 7 rfl; have hz2 : w.heap.size < w2.heap.size := (Has.made hb2).lt; clear hb2) | (go_at_call 138; refine (all_calls F m nd nas _ _ _ (nd m).c 32766 _ (by decide) (by omega) (HA.out.below HB2.out) (RowN.below HN.out.2 HB2.out)).mono ?_; rintro e w1 ⟨rfl, rfl⟩))
  all_goals go_ret
  all_goals refine ⟨ret_bool ?_, by first | exact HB2.out | exact below_a' HB2.out _ | exact below_a' (below_a' HB2.out _) _⟩
  all_goals first | rfl | (simp [allS, *]; done) | (simp [allS, *]; omega) | (simp [allS, *]; intros; omega)

set_option maxRecDepth 100000 in
set_option maxHeartbeats 8000000 in
theorem fo_let (F m : Nat) (nd : Nat → ND) (nas : Nat → NA) (w : World) (hA : AH w F m nd nas) (hN : NodeAt 0 w (nd m) (nas m)) (hs : (nd m).sm) (_hcap : (nd m).kn ≤ (nas m).kc) :
    Calls Tryz.prog 72 #[.pointer (some ⟨F, 0, none⟩), nodeV (nd m) (nas m)] w fun e w' => e = .returned (.bool (uoB (nd m) false false false false true true && (decide (0 < (nd m).rn) && allS sEx nd m 0 (nd m).kn))) ∧ Below w.heap.size w w' := by
  have HA : Hid (AH w F m nd nas) := hA
  have HN : Hid (NodeAt 0 w (nd m) (nas m)) := hN
  have hkn := hs.kn
  have hrn := hs.rn
  have hsz := hs.s
  clear hA hN hs
  go_enter Tryz.func72, Tryz.ntmps72
  go_wp2_with (first | (go_at_call 137; refine (uo48_calls (nd m) (nas m) _).mono ?_; rintro e w2 ⟨rfl, hb2⟩; have HB2 : Hid (Below w.heap.size w w2) := below_call (below_alloc _ _) hb2; have n2 : w2.cell? ⟨w.heap.size, 2, none⟩ = some (.int .i64 (nd m).o) := (Has.made hb2).cell 2 rfl; have n3 : w2.cell? ⟨w.heap.size, 3, none⟩ = some (.int .i64 (nd m).n) := (Has.made hb2).cell 3 rfl; have n4 : w2.cell? ⟨w.heap.size, 4, none⟩ = some (.float .f64 (nd m).f) := (Has.made hb2).cell 4 rfl; have n5 : w2.cell? ⟨w.heap.size, 5, none⟩ = some (.string (nd m).s) := (Has.made hb2).cell 5 rfl; have n6 : w2.cell? ⟨w.heap.size, 6, none⟩ = some (.slice (nas m).ra (nd m).rn (nas m).rc) := (Has.made hb2).cell 6 rfl; have n7 : w2.cell? ⟨w.heap.size, 7, none⟩ = some (.slice (nas m).ka (nd m).kn (nas m).kc) := (Has.made hb2).cell 7 rfl; have hz2 : w.heap.size < w2.heap.size := (Has.made hb2).lt; clear hb2) | (go_at_call 138; refine (all_calls F m nd nas _ _ _ (nd m).c 549754765312 _ (by decide) (by omega) (HA.out.below HB2.out) (RowN.below HN.out.2 HB2.out)).mono ?_; rintro e w1 ⟨rfl, rfl⟩))
  all_goals go_ret
  all_goals refine ⟨ret_bool ?_, by first | exact HB2.out | exact below_a' HB2.out _ | exact below_a' (below_a' HB2.out _) _⟩
  all_goals first | rfl | (simp [allS, *]; done) | (simp [allS, *]; omega) | (simp [allS, *]; intros; omega)

set_option maxRecDepth 100000 in
set_option maxHeartbeats 8000000 in
theorem fo_bare (F m : Nat) (nd : Nat → ND) (nas : Nat → NA) (w : World) (hA : AH w F m nd nas) (hN : NodeAt 0 w (nd m) (nas m)) (hs : (nd m).sm) (_hcap : (nd m).kn ≤ (nas m).kc) :
    Calls Tryz.prog 79 #[.pointer (some ⟨F, 0, none⟩), nodeV (nd m) (nas m)] w fun e w' => e = .returned (.bool (uoB (nd m) false false false false false false)) ∧ Below w.heap.size w w' := by
  have HA : Hid (AH w F m nd nas) := hA
  have HN : Hid (NodeAt 0 w (nd m) (nas m)) := hN
  have hkn := hs.kn
  have hrn := hs.rn
  have hsz := hs.s
  clear hA hN hs
  go_enter Tryz.func79, Tryz.ntmps79
  go_wp2_with (go_at_call 137; refine (uo0_calls (nd m) (nas m) _).mono ?_; rintro e w2 ⟨rfl, hb2⟩; have HB2 : Hid (Below w.heap.size w w2) := below_call (below_alloc _ _) hb2; have n2 : w2.cell? ⟨w.heap.size, 2, none⟩ = some (.int .i64 (nd m).o) := (Has.made hb2).cell 2 rfl; have n3 : w2.cell? ⟨w.heap.size, 3, none⟩ = some (.int .i64 (nd m).n) := (Has.made hb2).cell 3 rfl; have n4 : w2.cell? ⟨w.heap.size, 4, none⟩ = some (.float .f64 (nd m).f) := (Has.made hb2).cell 4 rfl; have n5 : w2.cell? ⟨w.heap.size, 5, none⟩ = some (.string (nd m).s) := (Has.made hb2).cell 5 rfl; have n6 : w2.cell? ⟨w.heap.size, 6, none⟩ = some (.slice (nas m).ra (nd m).rn (nas m).rc) := (Has.made hb2).cell 6 rfl; have n7 : w2.cell? ⟨w.heap.size, 7, none⟩ = some (.slice (nas m).ka (nd m).kn (nas m).kc) := (Has.made hb2).cell 7 rfl; have hz2 : w.heap.size < w2.heap.size := (Has.made hb2).lt; clear hb2)
  all_goals go_ret
  all_goals refine ⟨ret_bool ?_, by first | exact HB2.out | exact below_a' HB2.out _ | exact below_a' (below_a' HB2.out _) _⟩
  all_goals first | rfl | (simp [*]; done) | (simp [*]; omega) | (simp [*]; intros; omega)

set_option maxRecDepth 100000 in
set_option maxHeartbeats 8000000 in
theorem fo_results (F m : Nat) (nd : Nat → ND) (nas : Nat → NA) (w : World) (hA : AH w F m nd nas) (hN : NodeAt 0 w (nd m) (nas m)) (hs : (nd m).sm) (_hcap : (nd m).kn ≤ (nas m).kc) :
    Calls Tryz.prog 80 #[.pointer (some ⟨F, 0, none⟩), nodeV (nd m) (nas m)] w fun e w' => e = .returned (.bool (uoB (nd m) false false false false false true && (allS sEx nd m 0 (nd m).kn))) ∧ Below w.heap.size w w' := by
  have HA : Hid (AH w F m nd nas) := hA
  have HN : Hid (NodeAt 0 w (nd m) (nas m)) := hN
  have hkn := hs.kn
  have hrn := hs.rn
  have hsz := hs.s
  clear hA hN hs
  go_enter Tryz.func80, Tryz.ntmps80
  go_wp2_with (first | (go_at_call 137; refine (uo32_calls (nd m) (nas m) _).mono ?_; rintro e w2 ⟨rfl, hb2⟩; have HB2 : Hid (Below w.heap.size w w2) := below_call (below_alloc _ _) hb2; have n2 : w2.cell? ⟨w.heap.size, 2, none⟩ = some (.int .i64 (nd m).o) := (Has.made hb2).cell 2 rfl; have n3 : w2.cell? ⟨w.heap.size, 3, none⟩ = some (.int .i64 (nd m).n) := (Has.made hb2).cell 3 rfl; have n4 : w2.cell? ⟨w.heap.size, 4, none⟩ = some (.float .f64 (nd m).f) := (Has.made hb2).cell 4 rfl; have n5 : w2.cell? ⟨w.heap.size, 5, none⟩ = some (.string (nd m).s) := (Has.made hb2).cell 5 rfl; have n6 : w2.cell? ⟨w.heap.size, 6, none⟩ = some (.slice (nas m).ra (nd m).rn (nas m).rc) := (Has.made hb2).cell 6 rfl; have n7 : w2.cell? ⟨w.heap.size, 7, none⟩ = some (.slice (nas m).ka (nd m).kn (nas m).kc) := (Has.made hb2).cell 7 rfl; have hz2 : w.heap.size < w2.heap.size := (Has.made hb2).lt; clear hb2) | (go_at_call 138; refine (all_calls F m nd nas _ _ _ (nd m).c 549754765312 _ (by decide) (by omega) (HA.out.below HB2.out) (RowN.below HN.out.2 HB2.out)).mono ?_; rintro e w1 ⟨rfl, rfl⟩))
  all_goals go_ret
  all_goals refine ⟨ret_bool ?_, by first | exact HB2.out | exact below_a' HB2.out _ | exact below_a' (below_a' HB2.out _) _⟩
  all_goals first | rfl | (simp [allS, *]; done) | (simp [allS, *]; omega) | (simp [allS, *]; intros; omega)

set_option maxRecDepth 100000 in
set_option maxHeartbeats 8000000 in
theorem fo_integer (F m : Nat) (nd : Nat → ND) (nas : Nat → NA) (w : World) (hA : AH w F m nd nas) (hN : NodeAt 0 w (nd m) (nas m)) (hs : (nd m).sm) (_hcap : (nd m).kn ≤ (nas m).kc) :
    Calls Tryz.prog 83 #[.pointer (some ⟨F, 0, none⟩), nodeV (nd m) (nas m)] w fun e w' => e = .returned (.bool (uoB (nd m) false true false false false false)) ∧ Below w.heap.size w w' := by
  have HA : Hid (AH w F m nd nas) := hA
  have HN : Hid (NodeAt 0 w (nd m) (nas m)) := hN
  have hkn := hs.kn
  have hrn := hs.rn
  have hsz := hs.s
  clear hA hN hs
  go_enter Tryz.func83, Tryz.ntmps83
  go_wp2_with (go_at_call 137; refine (uo2_calls (nd m) (nas m) _).mono ?_; rintro e w2 ⟨rfl, hb2⟩; have HB2 : Hid (Below w.heap.size w w2) := below_call (below_alloc _ _) hb2; have n2 : w2.cell? ⟨w.heap.size, 2, none⟩ = some (.int .i64 (nd m).o) := (Has.made hb2).cell 2 rfl; have n3 : w2.cell? ⟨w.heap.size, 3, none⟩ = some (.int .i64 (nd m).n) := (Has.made hb2).cell 3 rfl; have n4 : w2.cell? ⟨w.heap.size, 4, none⟩ = some (.float .f64 (nd m).f) := (Has.made hb2).cell 4 rfl; have n5 : w2.cell? ⟨w.heap.size, 5, none⟩ = some (.string (nd m).s) := (Has.made hb2).cell 5 rfl; have n6 : w2.cell? ⟨w.heap.size, 6, none⟩ = some (.slice (nas m).ra (nd m).rn (nas m).rc) := (Has.made hb2).cell 6 rfl; have n7 : w2.cell? ⟨w.heap.size, 7, none⟩ = some (.slice (nas m).ka (nd m).kn (nas m).kc) := (Has.made hb2).cell 7 rfl; have hz2 : w.heap.size < w2.heap.size := (Has.made hb2).lt; clear hb2)
  all_goals go_ret
  all_goals refine ⟨ret_bool ?_, by first | exact HB2.out | exact below_a' HB2.out _ | exact below_a' (below_a' HB2.out _) _⟩
  all_goals first | rfl | (simp [*]; done) | (simp [*]; omega) | (simp [*]; intros; omega)

set_option maxRecDepth 100000 in
set_option maxHeartbeats 8000000 in
theorem fo_text (F m : Nat) (nd : Nat → ND) (nas : Nat → NA) (w : World) (hA : AH w F m nd nas) (hN : NodeAt 0 w (nd m) (nas m)) (hs : (nd m).sm) (_hcap : (nd m).kn ≤ (nas m).kc) :
    Calls Tryz.prog 85 #[.pointer (some ⟨F, 0, none⟩), nodeV (nd m) (nas m)] w fun e w' => e = .returned (.bool (uoB (nd m) false false false true false false && (decide (((nd m).s.size : Int) ≤ 4000)))) ∧ Below w.heap.size w w' := by
  have HA : Hid (AH w F m nd nas) := hA
  have HN : Hid (NodeAt 0 w (nd m) (nas m)) := hN
  have hkn := hs.kn
  have hrn := hs.rn
  have hsz := hs.s
  clear hA hN hs
  go_enter Tryz.func85, Tryz.ntmps85
  go_wp2_with (go_at_call 137; refine (uo8_calls (nd m) (nas m) _).mono ?_; rintro e w2 ⟨rfl, hb2⟩; have HB2 : Hid (Below w.heap.size w w2) := below_call (below_alloc _ _) hb2; have n2 : w2.cell? ⟨w.heap.size, 2, none⟩ = some (.int .i64 (nd m).o) := (Has.made hb2).cell 2 rfl; have n3 : w2.cell? ⟨w.heap.size, 3, none⟩ = some (.int .i64 (nd m).n) := (Has.made hb2).cell 3 rfl; have n4 : w2.cell? ⟨w.heap.size, 4, none⟩ = some (.float .f64 (nd m).f) := (Has.made hb2).cell 4 rfl; have n5 : w2.cell? ⟨w.heap.size, 5, none⟩ = some (.string (nd m).s) := (Has.made hb2).cell 5 rfl; have n6 : w2.cell? ⟨w.heap.size, 6, none⟩ = some (.slice (nas m).ra (nd m).rn (nas m).rc) := (Has.made hb2).cell 6 rfl; have n7 : w2.cell? ⟨w.heap.size, 7, none⟩ = some (.slice (nas m).ka (nd m).kn (nas m).kc) := (Has.made hb2).cell 7 rfl; have hz2 : w.heap.size < w2.heap.size := (Has.made hb2).lt; clear hb2)
  all_goals go_ret
  all_goals refine ⟨ret_bool ?_, by first | exact HB2.out | exact below_a' HB2.out _ | exact below_a' (below_a' HB2.out _) _⟩
  all_goals first | rfl | (simp [*]; done) | (simp [*]; omega) | (simp [*]; intros; omega)

set_option maxRecDepth 100000 in
set_option maxHeartbeats 8000000 in
theorem fo_oneRef (F m : Nat) (nd : Nat → ND) (nas : Nat → NA) (w : World) (hA : AH w F m nd nas) (hN : NodeAt 0 w (nd m) (nas m)) (hs : (nd m).sm) (_hcap : (nd m).kn ≤ (nas m).kc) :
    Calls Tryz.prog 86 #[.pointer (some ⟨F, 0, none⟩), nodeV (nd m) (nas m)] w fun e w' => e = .returned (.bool (uoB (nd m) false false false false true false && (((nd m).rn : Int) == 1))) ∧ Below w.heap.size w w' := by
  have HA : Hid (AH w F m nd nas) := hA
  have HN : Hid (NodeAt 0 w (nd m) (nas m)) := hN
  have hkn := hs.kn
  have hrn := hs.rn
  have hsz := hs.s
  clear hA hN hs
  go_enter Tryz.func86, Tryz.ntmps86
  go_wp2_with (go_at_call 137; refine (uo16_calls (nd m) (nas m) _).mono ?_; rintro e w2 ⟨rfl, hb2⟩; have HB2 : Hid (Below w.heap.size w w2) := below_call (below_alloc _ _) hb2; have n2 : w2.cell? ⟨w.heap.size, 2, none⟩ = some (.int .i64 (nd m).o) := (Has.made hb2).cell 2 rfl; have n3 : w2.cell? ⟨w.heap.size, 3, none⟩ = some (.int .i64 (nd m).n) := (Has.made hb2).cell 3 rfl; have n4 : w2.cell? ⟨w.heap.size, 4, none⟩ = some (.float .f64 (nd m).f) := (Has.made hb2).cell 4 rfl; have n5 : w2.cell? ⟨w.heap.size, 5, none⟩ = some (.string (nd m).s) := (Has.made hb2).cell 5 rfl; have n6 : w2.cell? ⟨w.heap.size, 6, none⟩ = some (.slice (nas m).ra (nd m).rn (nas m).rc) := (Has.made hb2).cell 6 rfl; have n7 : w2.cell? ⟨w.heap.size, 7, none⟩ = some (.slice (nas m).ka (nd m).kn (nas m).kc) := (Has.made hb2).cell 7 rfl; have hz2 : w.heap.size < w2.heap.size := (Has.made hb2).lt; clear hb2)
  all_goals go_ret
  all_goals refine ⟨ret_bool ?_, by first | exact HB2.out | exact below_a' HB2.out _ | exact below_a' (below_a' HB2.out _) _⟩
  all_goals first | rfl | (simp [*]; done) | (simp [*]; omega) | (simp [*]; intros; omega)

set_option maxRecDepth 100000 in
set_option maxHeartbeats 8000000 in
theorem fo_builtin (F m : Nat) (nd : Nat → ND) (nas : Nat → NA) (w : World) (hA : AH w F m nd nas) (hN : NodeAt 0 w (nd m) (nas m)) (hs : (nd m).sm) (_hcap : (nd m).kn ≤ (nas m).kc) :
    Calls Tryz.prog 87 #[.pointer (some ⟨F, 0, none⟩), nodeV (nd m) (nas m)] w fun e w' => e = .returned (.bool (uoB (nd m) false true false false false false && (decide (0 ≤ (nd m).n) && decide ((nd m).n < 15)))) ∧ Below w.heap.size w w' := by
  have HA : Hid (AH w F m nd nas) := hA
  have HN : Hid (NodeAt 0 w (nd m) (nas m)) := hN
  have hkn := hs.kn
  have hrn := hs.rn
  have hsz := hs.s
  clear hA hN hs
  go_enter Tryz.func87, Tryz.ntmps87
  go_wp2_with (go_at_call 137; refine (uo2_calls (nd m) (nas m) _).mono ?_; rintro e w2 ⟨rfl, hb2⟩; have HB2 : Hid (Below w.heap.size w w2) := below_call (below_alloc _ _) hb2; have n2 : w2.cell? ⟨w.heap.size, 2, none⟩ = some (.int .i64 (nd m).o) := (Has.made hb2).cell 2 rfl; have n3 : w2.cell? ⟨w.heap.size, 3, none⟩ = some (.int .i64 (nd m).n) := (Has.made hb2).cell 3 rfl; have n4 : w2.cell? ⟨w.heap.size, 4, none⟩ = some (.float .f64 (nd m).f) := (Has.made hb2).cell 4 rfl; have n5 : w2.cell? ⟨w.heap.size, 5, none⟩ = some (.string (nd m).s) := (Has.made hb2).cell 5 rfl; have n6 : w2.cell? ⟨w.heap.size, 6, none⟩ = some (.slice (nas m).ra (nd m).rn (nas m).rc) := (Has.made hb2).cell 6 rfl; have n7 : w2.cell? ⟨w.heap.size, 7, none⟩ = some (.slice (nas m).ka (nd m).kn (nas m).kc) := (Has.made hb2).cell 7 rfl; have hz2 : w.heap.size < w2.heap.size := (Has.made hb2).lt; clear hb2)
  all_goals go_ret
  all_goals refine ⟨ret_bool ?_, by first | exact HB2.out | exact below_a' HB2.out _ | exact below_a' (below_a' HB2.out _) _⟩
  all_goals first | rfl | (simp [*]; done) | (simp [*]; omega) | (simp [*]; intros; omega)

set_option maxRecDepth 100000 in
set_option maxHeartbeats 8000000 in
theorem fo_call (F m : Nat) (nd : Nat → ND) (nas : Nat → NA) (w : World) (hA : AH w F m nd nas) (hN : NodeAt 0 w (nd m) (nas m)) (hs : (nd m).sm) (_hcap : (nd m).kn ≤ (nas m).kc) :
    Calls Tryz.prog 91 #[.pointer (some ⟨F, 0, none⟩), nodeV (nd m) (nas m)] w fun e w' => e = .returned (.bool (uoB (nd m) false false false false false true && (decide (0 < (nd m).kn) && allS sEx nd m 0 (nd m).kn))) ∧ Below w.heap.size w w' := by
  have HA : Hid (AH w F m nd nas) := hA
  have HN : Hid (NodeAt 0 w (nd m) (nas m)) := hN
  have hkn := hs.kn
  have hrn := hs.rn
  have hsz := hs.s
  clear hA hN hs
  go_enter Tryz.func91, Tryz.ntmps91
  go_wp2_with (first | (go_at_call 137; refine (uo32_calls (nd m) (nas m) _).mono ?_; rintro e w2 ⟨rfl, hb2⟩; have HB2 : Hid (Below w.heap.size w w2) := below_call (below_alloc _ _) hb2; have n2 : w2.cell? ⟨w.heap.size, 2, none⟩ = some (.int .i64 (nd m).o) := (Has.made hb2).cell 2 rfl; have n3 : w2.cell? ⟨w.heap.size, 3, none⟩ = some (.int .i64 (nd m).n) := (Has.made hb2).cell 3 rfl; have n4 : w2.cell? ⟨w.heap.size, 4, none⟩ = some (.float .f64 (nd m).f) := (Has.made hb2).cell 4 rfl; have n5 : w2.cell? ⟨w.heap.size, 5, none⟩ = some (.string (nd m).s) := (Has.made hb2).cell 5 rfl; have n6 : w2.cell? ⟨w.heap.size, 6, none⟩ = some (.slice (nas m).ra (nd m).rn (nas m).rc) := (Has.made hb2).cell 6 rfl; have n7 : w2.cell? ⟨w.heap.size, 7, none⟩ = some (.slice (nas m).ka (nd m).kn (nas m).kc) := (Has.made hb2).cell 7 rfl; have hz2 : w.heap.size < w2.heap.size := (Has.made hb2).lt; clear hb2) | (go_at_call 138; refine (all_calls F m nd nas _ _ _ (nd m).c 549754765312 _ (by decide) (by omega) (HA.out.below HB2.out) (RowN.below HN.out.2 HB2.out)).mono ?_; rintro e w1 ⟨rfl, rfl⟩))
  all_goals go_ret
  all_goals refine ⟨ret_bool ?_, by first | exact HB2.out | exact below_a' HB2.out _ | exact below_a' (below_a' HB2.out _) _⟩
  all_goals first | rfl | (simp [allS, *]; done) | (simp [allS, *]; omega) | (simp [allS, *]; intros; omega)

set_option maxRecDepth 100000 in
set_option maxHeartbeats 8000000 in
theorem fo_fraction (F m : Nat) (nd : Nat → ND) (nas : Nat → NA) (w : World) (hA : AH w F m nd nas) (hN : NodeAt 0 w (nd m) (nas m)) (hs : (nd m).sm) (_hcap : (nd m).kn ≤ (nas m).kc) :
    Calls Tryz.prog 84 #[.pointer (some ⟨F, 0, none⟩), nodeV (nd m) (nas m)] w fun e w' => e = .returned (.bool (uoB (nd m) false false true false false false && (nnB (nd m).f))) ∧ Below w.heap.size w w' := by
  have HA : Hid (AH w F m nd nas) := hA
  have HN : Hid (NodeAt 0 w (nd m) (nas m)) := hN
  have hkn := hs.kn
  have hrn := hs.rn
  have hsz := hs.s
  clear hA hN hs
  go_enter Tryz.func84, Tryz.ntmps84
  go_wp2_with (first | (go_at_call 137; refine (uo4_calls (nd m) (nas m) _).mono ?_; rintro e w2 ⟨rfl, hb2⟩; have HB2 : Hid (Below w.heap.size w w2) := below_call (below_alloc _ _) hb2; have n2 : w2.cell? ⟨w.heap.size, 2, none⟩ = some (.int .i64 (nd m).o) := (Has.made hb2).cell 2 rfl; have n3 : w2.cell? ⟨w.heap.size, 3, none⟩ = some (.int .i64 (nd m).n) := (Has.made hb2).cell 3 rfl; have n4 : w2.cell? ⟨w.heap.size, 4, none⟩ = some (.float .f64 (nd m).f) := (Has.made hb2).cell 4 rfl; have n5 : w2.cell? ⟨w.heap.size, 5, none⟩ = some (.string (nd m).s) := (Has.made hb2).cell 5 rfl; have n6 : w2.cell? ⟨w.heap.size, 6, none⟩ = some (.slice (nas m).ra (nd m).rn (nas m).rc) := (Has.made hb2).cell 6 rfl; have n7 : w2.cell? ⟨w.heap.size, 7, none⟩ = some (.slice (nas m).ka (nd m).kn (nas m).kc) := (Has.made hb2).cell 7 rfl; have hz2 : w.heap.size < w2.heap.size := (Has.made hb2).lt; clear hb2) | (go_at_call 140; refine (isNaN_calls _ _).mono ?_; rintro e w1 ⟨rfl, rfl⟩))
  all_goals go_ret
  all_goals refine ⟨ret_bool ?_, by first | exact HB2.out | exact below_a' HB2.out _ | exact below_a' (below_a' HB2.out _) _⟩
  all_goals first | rfl | (simp [nnB, bne, *]; done) | (simp [nnB, bne, *]; omega) | (simp [nnB, bne, *]; intros; omega)

end Go.Proofs.YtjempigpjcnmhaaGreat
