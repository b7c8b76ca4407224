import Derived.Test.YtiidepafifodjabGreatDrwE
import Derived.Test.YtiidepafifodjabGreatOrdK
import Derived.Test.YtiidepafifodjabGreatWords
/-! The draws: near, two values. -/
namespace Go.Proofs.YtiidepafifodjabGreat
open Go.RowKit
attribute [local go_sem] run_store_float
attribute [local go_sem ↓] Go.wp_at_zero Go.wp_at_succ

theorem DS.ne1 {w : World} {B : Nat} {a : Option Addr} {len cap A : Nat} {u : World} (h : DS w B a len cap A u) : w.heap.size + 1 ≠ B := by
  obtain ⟨_, _, _, _, h0⟩ := h.c0
  have := h0.lt
  omega
theorem DS.setR15 {w : World} {B : Nat} {a : Option Addr} {len cap A : Nat} {u : World} (h : DS w B a len cap A u) (v0 v1 v2 v3 v4 : Value) : DS w B a len cap A (((((u.setCell ⟨w.heap.size + 1, 0, none⟩ v0).setCell ⟨w.heap.size + 1, 1, none⟩ v1).setCell ⟨w.heap.size + 1, 2, none⟩ v2).setCell ⟨w.heap.size + 1, 3, none⟩ v3).setCell ⟨w.heap.size + 1, 4, none⟩ v4) :=
  ((((h.setR (Nat.le_succ _) _ _).setR (Nat.le_succ _) _ _).setR (Nat.le_succ _) _ _).setR (Nat.le_succ _) _ _).setR (Nat.le_succ _) _ _
theorem LB.set1 {P : Nat} {y : VD} {u : World} (h : LB P y u) {R : Nat} (hne : P ≠ R) (o : Nat) (v : Value) : LB P y (u.setCell ⟨R, o, none⟩ v) := h.block (by simp) (Below.heap_setCell u ⟨R, o, none⟩ v P hne)
theorem LB.drew {P : Nat} {y : VD} {u : World} (h : LB P y u) : LB P y u.drew := ⟨h.h, h.fr⟩

theorem wrapK (x : Int) : I64b (IntKind.i64.wrap x) := by
  unfold I64b
  simp [IntKind.wrap, IntKind.bits, IntKind.signed]
  omega
theorem rk_c (c m : Nat) (i : Int) (n : Nat) (s : Bool) (h : Ieee.double.read c = .number s m i) (hi : -1074 ≤ i) (hn : (i + 1074).toNat = n) (hm : m < 2 ^ 53) (hn2 : n ≤ 2045) : RkF c (some (0, Fl.sv s (m * 2 ^ n))) :=
  .inl ⟨s, m * 2 ^ n, ⟨m, i, h, hi, by rw [hn]⟩, ⟨m, n, hm, hn2, rfl⟩, rfl⟩
theorem rk_mil : RkF 4696837146684686336 (some (0, Fl.sv false (8589934592000000 * 2 ^ 1041))) := rk_c _ 8589934592000000 (-33) 1041 false (by decide +kernel) (by omega) (by omega) (by decide) (by omega)
theorem rk_nmil : RkF 13920209183539462144 (some (0, Fl.sv true (8589934592000000 * 2 ^ 1041))) := rk_c _ 8589934592000000 (-33) 1041 true (by decide +kernel) (by omega) (by omega) (by decide) (by omega)
theorem mil_le (a b : Nat) (h : a ≤ b) : 8589934592000000 * 2 ^ a < 2 ^ 63 * 2 ^ b :=
  Nat.lt_of_lt_of_le (Nat.mul_lt_mul_of_pos_right (by decide) (Nat.two_pow_pos a)) (Nat.mul_le_mul_left _ (Nat.pow_le_pow_right (by omega) h))
theorem near_int {f : Nat} (hf : f < 2 ^ 64) (h1 : FloatKind.f64.format.order f 13920209183539462144 = some .gt) (h2 : FloatKind.f64.format.order f 4696837146684686336 = some .lt) : ∃ n, floatToIntVal .f64 f .i64 = some n ∧ I64b n := by
  obtain ⟨a, ha⟩ := RkF.ex hf
  have hN := mil_le 1041 1074 (by omega)
  cases a with
  | none =>
    exfalso
    rcases ha with ⟨_, _, _, _, e⟩ | ⟨_, _, e⟩ | ⟨⟨s, t, h⟩, _⟩
    · cases e
    · cases e
    · have : Ieee.double.order f 4696837146684686336 = none := by unfold Ieee.Format.order; rw [h]; rfl
      have h2' : Ieee.double.order f 4696837146684686336 = some .lt := h2
      rw [this] at h2'; cases h2'
  | some a =>
    rw [ha.order rk_nmil] at h1
    rw [ha.order rk_mil] at h2
    have c2 := ordI_lt (Option.some.inj h2)
    have c1 : cmpE a (0, Fl.sv true (8589934592000000 * 2 ^ 1041)) = 1 := by
      rcases cmpE_rng a (0, Fl.sv true (8589934592000000 * 2 ^ 1041)) with c | c | c
      · rw [c] at h1; exact absurd (Option.some.inj h1) (by decide)
      · rw [c] at h1; exact absurd (Option.some.inj h1) (by decide)
      · exact c
    rcases ha with ⟨s, M, hx, hr, e⟩ | ⟨s, h, e⟩ | ⟨_, e⟩
    · cases e
      have hM : M < 2 ^ 63 * 2 ^ 1074 := by
        clear hx hr h1 h2
        generalize 8589934592000000 * 2 ^ 1041 = N at *
        generalize 2 ^ 63 * 2 ^ 1074 = E at *
        unfold cmpE cmpI Fl.sv at *
        cases s
        · simp only [Bool.false_eq_true, if_false] at *
          (repeat' split at c2) <;> omega
        · simp only [if_true] at *
          (repeat' split at c1) <;> omega
      obtain ⟨n, ht⟩ : ∃ n, floatToIntVal .f64 f .i64 = some n := ⟨_, Fl.toInt_val hx hM⟩
      refine ⟨n, ht, ?_⟩
      have hw := floatToIntVal_wf ht
      clear hN hM h1 h2 c1 c2 hx hr
      simp [Lit.wf, IntKind.min, IntKind.max, IntKind.signed, IntKind.bits] at hw
      exact hw
    · cases e
      exfalso
      clear hN h1 h2
      generalize 8589934592000000 * 2 ^ 1041 = N at *
      cases s
      · simp [cmpE] at c2
      · simp [cmpE] at c1
    · cases e

set_option maxRecDepth 100000 in
set_option maxHeartbeats 8000000 in
theorem near_calls (B : Nat) (a : Option Addr) (len cap A : Nat) (y : VD) (w : World) (hA : A < 400000) (hy : VW y) (h : CU B a len cap A w) :
    Calls Tryz.prog 103 #[.pointer (some ⟨B, 0, none⟩), y.v] w fun e w' => (∃ x : VD, e = .returned x.v ∧ VW x) ∧ CU B a len cap (A + 70) w' ∧ w.grownBy w' (some B) := by
  have HD : Hid (DS w B a len cap A ((w.alloc (.cells (vC5 y) 44)).alloc (.cells (vC5 vz) 44))) := ((DS.new h).alloc _).alloc _
  have HP : Hid (LB w.heap.size y ((w.alloc (.cells (vC5 y) 44)).alloc (.cells (vC5 vz) 44))) := (LB.new w y _).call (below_alloc _ _)
  have HL : Hid (LB (w.heap.size + 1) vz ((w.alloc (.cells (vC5 y) 44)).alloc (.cells (vC5 vz) 44))) := by
    have := LB.new (w.alloc (.cells (vC5 y) 44)) vz 44
    rw [World.size_alloc] at this
    exact this
  clear h
  obtain ⟨z0, z1, z2, z3, z4⟩ := HL.out.c
  have zf := HL.out.fr
  obtain ⟨y0, y1, y2, y3, y4⟩ := HP.out.c
  go_enter Tryz.func103, Tryz.ntmps103
  go_upto_region 2 with (go_at_call 187; refine (pick_calls B a len cap _ _ _ (by omega) (by omega) (by omega) HD.out.c).mono ?_; rintro e w1 ⟨⟨v, rfl, v0, v1⟩, hc, hg⟩; have HD' : Hid (DS w B a len cap _ w1) := HD.out.step hc hg; have HL' : Hid (LB (w.heap.size + 1) vz w1) := HL.out.step hg HD.out.ne1; have HP' : Hid (LB w.heap.size y w1) := HP.out.step hg HD.out.ne; clear HD HL HP z0 z1 z2 z3 z4 zf y0 y1 y2 y3 y4; have HD : Hid (DS w B a len cap _ w1) := HD'.out; have HL : Hid (LB (w.heap.size + 1) vz w1) := HL'.out; have HP : Hid (LB w.heap.size y w1) := HP'.out; clear HD' HL' HP'; obtain ⟨z0, z1, z2, z3, z4⟩ := HL.out.c; have zf := HL.out.fr; obtain ⟨y0, y1, y2, y3, y4⟩ := HP.out.c; clear hc hg)
  rcases (show v = 0 ∨ v = 1 ∨ 2 ≤ v by omega) with rfl | rfl | h2
  · by_cases hk2 : y.k = 2
    · rw [hk2] at y0
      go_wp2_with (go_at_call 118; refine (l1fltD_calls _ _).mono ?_; rintro e w2 ⟨rfl, hb⟩; have HD' : Hid (DS w B a len cap _ w2) := HD.out.below hb; have HL' : Hid (LB (w.heap.size + 1) vz w2) := HL.out.call hb; have HP' : Hid (LB w.heap.size y w2) := HP.out.call hb; clear HD HL HP z0 z1 z2 z3 z4 zf y0 y1 y2 y3 y4; have HD : Hid (DS w B a len cap _ w2) := HD'.out; have HL : Hid (LB (w.heap.size + 1) vz w2) := HL'.out; have HP : Hid (LB w.heap.size y w2) := HP'.out; clear HD' HL' HP'; obtain ⟨z0, z1, z2, z3, z4⟩ := HL.out.c; have zf := HL.out.fr; obtain ⟨y0, y1, y2, y3, y4⟩ := HP.out.c; clear hb)
      exact bodyPost_ret (v := vOf 3 0 (floatOfInt .f64 y.n) ⟨#[]⟩ 0) (by simp [results, Tryz.results103, go_sem, z0, z1, z2, z3, z4]) rfl ⟨⟨⟨3, 0, (floatOfInt .f64 y.n), ⟨#[]⟩, 0⟩, rfl, vw_of (i64s (by omega) (by omega)) (nn_int _).1 (by decide)⟩, (HD.out.setR15 _ _ _ _ _).c.mono (by omega), (HD.out.setR15 _ _ _ _ _).g⟩

    · have e2 : (y.k == 2) = false := by simpa using hk2
      by_cases hk3 : y.k = 3
      · rw [hk3] at y0
        by_cases o1 : FloatKind.f64.format.order y.f 13920209183539462144 = some .gt
        · by_cases o2 : FloatKind.f64.format.order y.f 4696837146684686336 = some .lt
          · obtain ⟨n, hn, hn64⟩ := near_int hy.f o1 o2
            have r1 := run_convert_float_int (P := Tryz.prog) w1 42 2 .f64 .i64 y.f n (by rw [Tryz.underlying42]; rfl) Tryz.underlying2 hn
            go_wp2_with (go_at_call 117; refine (l1int_calls _ _).mono ?_; rintro e w2 ⟨rfl, hb⟩; have HD' : Hid (DS w B a len cap _ w2) := HD.out.below hb; have HL' : Hid (LB (w.heap.size + 1) vz w2) := HL.out.call hb; have HP' : Hid (LB w.heap.size y w2) := HP.out.call hb; clear HD HL HP z0 z1 z2 z3 z4 zf y0 y1 y2 y3 y4; have HD : Hid (DS w B a len cap _ w2) := HD'.out; have HL : Hid (LB (w.heap.size + 1) vz w2) := HL'.out; have HP : Hid (LB w.heap.size y w2) := HP'.out; clear HD' HL' HP'; obtain ⟨z0, z1, z2, z3, z4⟩ := HL.out.c; have zf := HL.out.fr; obtain ⟨y0, y1, y2, y3, y4⟩ := HP.out.c; clear hb)
            exact bodyPost_ret (v := vOf 2 n 0 ⟨#[]⟩ 0) (by simp [results, Tryz.results103, go_sem, z0, z1, z2, z3, z4]) rfl ⟨⟨⟨2, n, 0, ⟨#[]⟩, 0⟩, rfl, vw_of hn64 (by decide) (by decide)⟩, (HD.out.setR15 _ _ _ _ _).c.mono (by omega), (HD.out.setR15 _ _ _ _ _).g⟩

          · have o2' : (FloatKind.f64.format.order y.f 4696837146684686336 == some .lt) = false := by simpa using o2
            go_wp2_with fail
            exact bodyPost_ret (v := vOf 3 y.n y.f y.s y.r) (by simp [results, Tryz.results103, go_sem, z0, z1, z2, z3, z4]) rfl ⟨⟨⟨3, y.n, y.f, y.s, y.r⟩, rfl, ⟨hy.n1, hy.n2, hy.f, hy.s⟩⟩, (HD.out.setR15 _ _ _ _ _).c.mono (by omega), (HD.out.setR15 _ _ _ _ _).g⟩

        · have o1' : (FloatKind.f64.format.order y.f 13920209183539462144 == some .gt) = false := by simpa using o1
          go_wp2_with fail
          exact bodyPost_ret (v := vOf 3 y.n y.f y.s y.r) (by simp [results, Tryz.results103, go_sem, z0, z1, z2, z3, z4]) rfl ⟨⟨⟨3, y.n, y.f, y.s, y.r⟩, rfl, ⟨hy.n1, hy.n2, hy.f, hy.s⟩⟩, (HD.out.setR15 _ _ _ _ _).c.mono (by omega), (HD.out.setR15 _ _ _ _ _).g⟩

      · have e3 : (y.k == 3) = false := by simpa using hk3
        go_wp2_with fail
        exact bodyPost_ret (v := vOf y.k y.n y.f y.s y.r) (by simp [results, Tryz.results103, go_sem, z0, z1, z2, z3, z4]) rfl ⟨⟨⟨y.k, y.n, y.f, y.s, y.r⟩, rfl, hy⟩, (HD.out.setR15 _ _ _ _ _).c.mono (by omega), (HD.out.setR15 _ _ _ _ _).g⟩

  · by_cases hk2 : y.k = 2
    · rw [hk2] at y0
      go_upto_region 10 with fail
      clear y0 y2 y3 y4
      have y0 : True := trivial
      have y2 : True := trivial
      have y3 : True := trivial
      have y4 : True := trivial
      go_region_held3 (fun w' => w'.cell? ⟨w.heap.size, 1, none⟩ = some (.int .i64 y.n)) (first | (with_reducible exact HP.out.c.2.1) | (with_reducible exact HP.out.drew.c.2.1) | (with_reducible exact (((((HP.out.set1 (Nat.ne_of_lt (Nat.lt_succ_self _)) _ _).set1 (Nat.ne_of_lt (Nat.lt_succ_self _)) _ _).set1 (Nat.ne_of_lt (Nat.lt_succ_self _)) _ _).set1 (Nat.ne_of_lt (Nat.lt_succ_self _)) _ _).set1 (Nat.ne_of_lt (Nat.lt_succ_self _)) _ _).c.2.1)) (first | (go_at_call 187; refine (pick_calls B a len cap (A + 2) 3 _ (by omega) (by omega) (by omega) (by first | exact HD.out.c | exact HD.out.drew.c)).mono ?_; rintro e w1 ⟨⟨v, rfl, v0, v1⟩, hc, hg⟩; have HD' : Hid (DS w B a len cap _ w1) := (by first | exact HD.out.step hc hg | exact HD.out.drew.step hc hg); have HL' : Hid (LB (w.heap.size + 1) vz w1) := (by first | exact HL.out.step hg HD.out.ne1 | exact HL.out.drew.step hg HD.out.ne1); have HP' : Hid (LB w.heap.size y w1) := (by first | exact HP.out.step hg HD.out.ne | exact HP.out.drew.step hg HD.out.ne); clear HD HL HP z0 z1 z2 z3 z4 zf y0 y1 y2 y3 y4; have HD : Hid (DS w B a len cap _ w1) := HD'.out; have HL : Hid (LB (w.heap.size + 1) vz w1) := HL'.out; have HP : Hid (LB w.heap.size y w1) := HP'.out; clear HD' HL' HP'; obtain ⟨z0, z1, z2, z3, z4⟩ := HL.out.c; have zf := HL.out.fr; obtain ⟨y0, y1, y2, y3, y4⟩ := HP.out.c; clear hc hg) | (go_at_call 117; refine (l1int_calls _ _).mono ?_; rintro e w2 ⟨rfl, hb⟩; have HD' : Hid (DS w B a len cap _ w2) := (by first | exact HD.out.below hb | exact HD.out.drew.below hb); have HL' : Hid (LB (w.heap.size + 1) vz w2) := (by first | exact HL.out.call hb | exact HL.out.drew.call hb); have HP' : Hid (LB w.heap.size y w2) := (by first | exact HP.out.call hb | exact HP.out.drew.call hb); clear HD HL HP z0 z1 z2 z3 z4 zf y0 y1 y2 y3 y4; have HD : Hid (DS w B a len cap _ w2) := HD'.out; have HL : Hid (LB (w.heap.size + 1) vz w2) := HL'.out; have HP : Hid (LB w.heap.size y w2) := HP'.out; clear HD' HL' HP'; obtain ⟨z0, z1, z2, z3, z4⟩ := HL.out.c; have zf := HL.out.fr; obtain ⟨y0, y1, y2, y3, y4⟩ := HP.out.c; clear hb))
      all_goals go_wp2_with fail
      all_goals exact bodyPost_ret (v := vOf 2 (IntKind.i64.wrap (IntKind.i64.wrap (y.n + v) - 1)) 0 ⟨#[]⟩ 0) (by simp [results, Tryz.results103, go_sem, z0, z1, z2, z3, z4]) rfl ⟨⟨⟨2, (IntKind.i64.wrap (IntKind.i64.wrap (y.n + v) - 1)), 0, ⟨#[]⟩, 0⟩, rfl, vw_of (wrapK _) (by decide) (by decide)⟩, (HD.out.setR15 _ _ _ _ _).c.mono (by omega), (HD.out.setR15 _ _ _ _ _).g⟩

    · have e2 : (y.k == 2) = false := by simpa using hk2
      by_cases hk4 : y.k = 4
      · rw [hk4] at y0
        by_cases hsz : y.s.size < 4000
        · have hss : (y.s ++ ⟨#[97]⟩).size = y.s.size + 1 := ByteArray.size_append
          have hmx : ¬ 9223372036854775807 < y.s.size + 1 := by omega
          go_wp2_with (go_at_call 69; refine (l1strD_calls _ _).mono ?_; rintro e w2 ⟨rfl, hb⟩; have HD' : Hid (DS w B a len cap _ w2) := HD.out.below hb; have HL' : Hid (LB (w.heap.size + 1) vz w2) := HL.out.call hb; have HP' : Hid (LB w.heap.size y w2) := HP.out.call hb; clear HD HL HP z0 z1 z2 z3 z4 zf y0 y1 y2 y3 y4; have HD : Hid (DS w B a len cap _ w2) := HD'.out; have HL : Hid (LB (w.heap.size + 1) vz w2) := HL'.out; have HP : Hid (LB w.heap.size y w2) := HP'.out; clear HD' HL' HP'; obtain ⟨z0, z1, z2, z3, z4⟩ := HL.out.c; have zf := HL.out.fr; obtain ⟨y0, y1, y2, y3, y4⟩ := HP.out.c; clear hb)
          exact bodyPost_ret (v := vOf 4 0 0 (y.s ++ ⟨#[97]⟩) 0) (by simp [results, Tryz.results103, go_sem, z0, z1, z2, z3, z4]) rfl ⟨⟨⟨4, 0, 0, (y.s ++ ⟨#[97]⟩), 0⟩, rfl, vw_of (i64s (by omega) (by omega)) (by decide) (by rw [hss]; omega)⟩, (HD.out.setR15 _ _ _ _ _).c.mono (by omega), (HD.out.setR15 _ _ _ _ _).g⟩

        · go_wp2_with fail
          exact bodyPost_ret (v := vOf 4 y.n y.f y.s y.r) (by simp [results, Tryz.results103, go_sem, z0, z1, z2, z3, z4]) rfl ⟨⟨⟨4, y.n, y.f, y.s, y.r⟩, rfl, ⟨hy.n1, hy.n2, hy.f, hy.s⟩⟩, (HD.out.setR15 _ _ _ _ _).c.mono (by omega), (HD.out.setR15 _ _ _ _ _).g⟩

      · have e4 : (y.k == 4) = false := by simpa using hk4
        go_wp2_with fail
        exact bodyPost_ret (v := vOf y.k y.n y.f y.s y.r) (by simp [results, Tryz.results103, go_sem, z0, z1, z2, z3, z4]) rfl ⟨⟨⟨y.k, y.n, y.f, y.s, y.r⟩, rfl, hy⟩, (HD.out.setR15 _ _ _ _ _).c.mono (by omega), (HD.out.setR15 _ _ _ _ _).g⟩

  · go_upto_region 14 with fail
    go_wp2_with (go_at_call 102; refine (value_calls B a len cap _ _ (by omega) HD.out.c).mono ?_; rintro e w1 ⟨⟨x, rfl, hx⟩, hc, hg⟩; have HD' : Hid (DS w B a len cap _ w1) := HD.out.step hc hg; have HL' : Hid (LB (w.heap.size + 1) vz w1) := HL.out.step hg HD.out.ne1; have HP' : Hid (LB w.heap.size y w1) := HP.out.step hg HD.out.ne; clear HD HL HP z0 z1 z2 z3 z4 zf y0 y1 y2 y3 y4; have HD : Hid (DS w B a len cap _ w1) := HD'.out; have HL : Hid (LB (w.heap.size + 1) vz w1) := HL'.out; have HP : Hid (LB w.heap.size y w1) := HP'.out; clear HD' HL' HP'; obtain ⟨z0, z1, z2, z3, z4⟩ := HL.out.c; have zf := HL.out.fr; obtain ⟨y0, y1, y2, y3, y4⟩ := HP.out.c; clear hc hg)
    exact bodyPost_ret (v := vOf x.k x.n x.f x.s x.r) (by simp [results, Tryz.results103, go_sem, z0, z1, z2, z3, z4]) rfl ⟨⟨⟨x.k, x.n, x.f, x.s, x.r⟩, rfl, hx⟩, (HD.out.setR15 _ _ _ _ _).c.mono (by omega), (HD.out.setR15 _ _ _ _ _).g⟩


end Go.Proofs.YtiidepafifodjabGreat
