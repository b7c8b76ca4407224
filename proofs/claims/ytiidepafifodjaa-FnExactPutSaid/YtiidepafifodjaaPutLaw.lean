import Derived.Test.YtiidepafifodjaaPutM
import Derived.Deep.DeepCutAuto
/-! FnExactPut: the walk. -/
namespace Go.Proofs.Ytiidepafifodjaa
open Go.RowKit
attribute [local go_sem] run_store_float
attribute [local go_sem ↓] Go.wp_at_zero Go.wp_at_succ

theorem lt_of_own {N : Nat} {w : World} {T : TypeId} {a : Option Addr} {n cap : Nat} {xs : List Value} (h : w.ownsRow N T 11 (.slice a n cap) n xs) : ∀ b off sp, a = some ⟨b, off, sp⟩ → b < w.heap.size := fun _ _ _ e => own_lt h e
theorem ne_new {N : Nat} {w : World} {T : TypeId} {a : Option Addr} {n cap : Nat} {xs : List Value} (h : w.ownsRow N T 11 (.slice a n cap) n xs) : ∀ b off sp, a = some ⟨b, off, sp⟩ → b ≠ w.heap.size := fun _ _ _ e => Nat.ne_of_lt (own_lt h e)

set_option maxRecDepth 100000 in
set_option maxHeartbeats 16000000 in
theorem put_walk (a : Option Addr) (n cap : Nat) (t : Int) (q : Nat → PD) (x v : VD) (w : World) (hn : n ≤ maxLen) (hq : ∀ i, i < n → (q i).wf) (hT : Tab w a n q) (xf : x.f < 2 ^ 64) (xs : x.s.size ≤ maxLen) (vf : v.f < 2 ^ 64) (vs : v.s.size ≤ maxLen) :
    Calls Try.prog 5 #[tOf a n cap t, x.v, v.v] w fun e w' => e = .returned (.bool true) ∧ Below w.heap.size w w' := by
  have hQ : Hid (∀ i, i < n → (q i).wf) := hq
  have hN : Hid (n ≤ maxLen) := hn
  have Hf : Hid ((x.f < 2 ^ 64 ∧ x.s.size ≤ maxLen) ∧ v.f < 2 ^ 64 ∧ v.s.size ≤ maxLen) := ⟨⟨xf, xs⟩, vf, vs⟩
  have HT0 : Hid (Tab (gl3 w a n cap t x v) a n q) := ((hT.alloc _).alloc _).alloc _
  have HTw : Hid (Tab w a n q) := hT
  have Hb : Hid (Below (gl3 w a n cap t x v).heap.size (gl3 w a n cap t x v) (gl3 w a n cap t x v)) := Below.refl _ _
  clear hq hT hn xf xs vf vs
  go_enter Try.func5, Try.ntmps5
  go_wp2_with fail
  refine (szTable_calls a n cap t q 1048576 _ (by omega) (by omega) hN.out hQ.out HT0.out).mono ?_
  rintro e w1 ⟨⟨u, rfl, hu⟩, hb1⟩
  replace Hb : Hid (Below (gl3 w a n cap t x v).heap.size (gl3 w a n cap t x v) w1) := hb1
  clear hb1
  rcases hu with rfl | ⟨u0, u1, u2⟩
  · go_wp2_with fail
    go_ret
    exact ⟨rfl, below_call (below_alloc3 _ _ _ _) Hb.out⟩
  have hn : n ≤ 1048576 := by omega
  obtain ⟨x0, x1, y0, y1, y2, y3, y4, z0, z1, z2, z3, z4⟩ := (gl3_cells Hb.out).c
  go_wp2_with fail
  refine (sz_calls _ _ _ _ _ _ _ u0 (by omega) Hf.out.1.2).mono ?_
  by_cases hs : u < x.s.size
  · rw [if_pos hs]
    rintro e w2 ⟨rfl, hb2⟩
    replace Hb : Hid (Below (gl3 w a n cap t x v).heap.size (gl3 w a n cap t x v) w2) := below_ix Hb.out hb2
    clear hb2 x0 x1 y0 y1 y2 y3 y4 z0 z1 z2 z3 z4
    go_wp2_with fail
    go_ret
    exact ⟨rfl, below_call (below_alloc3 _ _ _ _) Hb.out⟩
  rw [if_neg hs]
  rintro e w2 ⟨rfl, hb2⟩
  replace Hb : Hid (Below (gl3 w a n cap t x v).heap.size (gl3 w a n cap t x v) w2) := below_ix Hb.out hb2
  clear hb2 x0 x1 y0 y1 y2 y3 y4 z0 z1 z2 z3 z4
  obtain ⟨u', hu'⟩ : ∃ u', u - (x.s.size : Int) = u' := ⟨_, rfl⟩
  rw [hu']
  have hu0 : 0 ≤ u' := by omega
  have hu1 : u' ≤ 1048576 := by omega
  clear hu' hs u0 u1 u2
  obtain ⟨x0, x1, y0, y1, y2, y3, y4, z0, z1, z2, z3, z4⟩ := (gl3_cells Hb.out).c
  go_wp2_with fail
  refine (sz_calls _ _ _ _ _ _ _ hu0 (by omega) Hf.out.2.2).mono ?_
  by_cases hs : u' < v.s.size
  · rw [if_pos hs]
    rintro e w3 ⟨rfl, hb2⟩
    replace Hb : Hid (Below (gl3 w a n cap t x v).heap.size (gl3 w a n cap t x v) w3) := below_ix Hb.out hb2
    clear hb2 x0 x1 y0 y1 y2 y3 y4 z0 z1 z2 z3 z4
    go_wp2_with fail
    go_ret
    exact ⟨rfl, below_call (below_alloc3 _ _ _ _) Hb.out⟩
  rw [if_neg hs]
  rintro e w3 ⟨rfl, hb2⟩
  replace Hb : Hid (Below (gl3 w a n cap t x v).heap.size (gl3 w a n cap t x v) w3) := below_ix Hb.out hb2
  clear hb2 x0 x1 y0 y1 y2 y3 y4 z0 z1 z2 z3 z4
  go_upto_region 11 with fail
  clear hs hu0 hu1
  go_cut [8] (fun s8 wc => ∃ B7 D a7 c7, s8 = .pointer (some ⟨B7, 0, none⟩) ∧ Has wc B7 #[.slice a7 D.n c7, .int .i64 D.t] ∧ PutSays n t q x v D ∧ Tab wc a7 D.n D.q ∧ (∀ b off sp, a7 = some ⟨b, off, sp⟩ → b < wc.heap.size) ∧ Below (gl3 w a n cap t x v).heap.size (gl3 w a n cap t x v) wc)
  case first =>
    as_aux_lemma =>
      go_region_held3 (fun w' => w'.cell? ⟨w.heap.size, 0, none⟩ = some (.slice a n cap) ∧ w'.cell? ⟨w.heap.size, 1, none⟩ = some (.int .i64 t) ∧ w'.cell? ⟨w.heap.size + 1, 0, none⟩ = some (.int .i64 x.k) ∧ w'.cell? ⟨w.heap.size + 1, 1, none⟩ = some (.int .i64 x.n) ∧ w'.cell? ⟨w.heap.size + 1, 2, none⟩ = some (.float .f64 x.f) ∧ w'.cell? ⟨w.heap.size + 1, 3, none⟩ = some (.string x.s) ∧ w'.cell? ⟨w.heap.size + 1, 4, none⟩ = some (.int .i64 x.r) ∧ w'.cell? ⟨w.heap.size + 1 + 1, 0, none⟩ = some (.int .i64 v.k) ∧ w'.cell? ⟨w.heap.size + 1 + 1, 1, none⟩ = some (.int .i64 v.n) ∧ w'.cell? ⟨w.heap.size + 1 + 1, 2, none⟩ = some (.float .f64 v.f) ∧ w'.cell? ⟨w.heap.size + 1 + 1, 3, none⟩ = some (.string v.s) ∧ w'.cell? ⟨w.heap.size + 1 + 1, 4, none⟩ = some (.int .i64 v.r)) (first | (with_reducible exact (gl3_cells Hb.out).c) | (with_reducible exact (gl3_cells Hb.out.drew).c) | (with_reducible exact (gl3_cells (below_a Hb.out _)).c) | (with_reducible exact (gl3_cells (below_a Hb.out _).drew).c) | (with_reducible exact (gl3_cells (below_a Hb.out.drew _)).c) | (with_reducible exact (gl3_cells (st1 (st1 Hb.out HZ.out.lo _) HZ.out.lo _)).c)) (first | (go_at_call 28; refine (toTable_calls a n cap t q _ hn (by first | exact HT0.out.below Hb.out | exact HT0.out.below Hb.out.drew | exact HT0.out.below (below_a Hb.out _) | exact HT0.out.below (below_a Hb.out _).drew | exact HT0.out.below (below_a Hb.out.drew _))).mono ?_; rintro e w5 ⟨⟨B5, rfl, _, hR5⟩, hb5⟩; have HTn : Hid (Tab w5 (some ⟨B5, 0, none⟩) n q) := row_tab hR5; clear hR5; (first | (have hzl := HZ.out.lt; have HZ' := HZ.out.call hb5; clear HZ zc zd zf zl; have HZ : Hid _ := HZ'; clear HZ'; have zc := HZ.out.c0; have zd := HZ.out.c1; obtain ⟨zv, zc⟩ := zc; obtain ⟨zu, zd⟩ := zd; have zf := HZ.out.fr; have zl := HZ.out.lt; clear hzl) | (have HZ' := ZT.made Hb.out.size hb5; have HZ : Hid _ := HZ'; clear HZ'; have zc := HZ.out.c0; have zd := HZ.out.c1; obtain ⟨zv, zc⟩ := zc; obtain ⟨zu, zd⟩ := zd; have zf := HZ.out.fr; have zl := HZ.out.lt) | (have HZ' := ZT.madeD Hb.out.size hb5; have HZ : Hid _ := HZ'; clear HZ'; have zc := HZ.out.c0; have zd := HZ.out.c1; obtain ⟨zv, zc⟩ := zc; obtain ⟨zu, zd⟩ := zd; have zf := HZ.out.fr; have zl := HZ.out.lt) | skip); replace Hb : Hid (Below (gl3 w a n cap t x v).heap.size (gl3 w a n cap t x v) w5) := (by first | exact below_ix Hb.out hb5 | exact below_ix Hb.out.drew hb5 | exact below_ix (below_a Hb.out _) hb5 | exact below_ix (below_a Hb.out _).drew hb5 | exact below_ix (below_a Hb.out.drew _) hb5); clear hb5) | (go_at_call 29; refine (to_calls _ _ _ _ _ _).mono ?_; rintro e w6 ⟨rfl, hb6⟩; (try replace HTn : Hid (Tab w6 (some ⟨B5, 0, none⟩) n q) := (by first | exact HTn.out.below hb6 | exact HTn.out.drew.below hb6 | exact (HTn.out.alloc _).below hb6 | exact (HTn.out.alloc _).drew.below hb6 | exact (HTn.out.drew.alloc _).below hb6)); (first | (have hzl := HZ.out.lt; have HZ' := HZ.out.call hb6; clear HZ zc zd zf zl; have HZ : Hid _ := HZ'; clear HZ'; have zc := HZ.out.c0; have zd := HZ.out.c1; obtain ⟨zv, zc⟩ := zc; obtain ⟨zu, zd⟩ := zd; have zf := HZ.out.fr; have zl := HZ.out.lt; clear hzl) | (have HZ' := ZT.made Hb.out.size hb6; have HZ : Hid _ := HZ'; clear HZ'; have zc := HZ.out.c0; have zd := HZ.out.c1; obtain ⟨zv, zc⟩ := zc; obtain ⟨zu, zd⟩ := zd; have zf := HZ.out.fr; have zl := HZ.out.lt) | (have HZ' := ZT.madeD Hb.out.size hb6; have HZ : Hid _ := HZ'; clear HZ'; have zc := HZ.out.c0; have zd := HZ.out.c1; obtain ⟨zv, zc⟩ := zc; obtain ⟨zu, zd⟩ := zd; have zf := HZ.out.fr; have zl := HZ.out.lt) | skip); replace Hb : Hid (Below (gl3 w a n cap t x v).heap.size (gl3 w a n cap t x v) w6) := (by first | exact below_ix Hb.out hb6 | exact below_ix Hb.out.drew hb6 | exact below_ix (below_a Hb.out _) hb6 | exact below_ix (below_a Hb.out _).drew hb6 | exact below_ix (below_a Hb.out.drew _) hb6); clear hb6) | (go_at_call 27; refine (specPut_calls _ n n t q x v _ hn hQ.out Hf.out.1.1 Hf.out.1.2 (by first | exact HTn.out | exact HTn.out.drew | exact (HTn.out.alloc _) | exact (HTn.out.alloc _).drew | exact (HTn.out.drew.alloc _))).mono ?_; rintro e w7 ⟨⟨D, hD, a7, c7, rfl, ho⟩, hb7⟩; have HD : Hid (PutSays n t q x v D) := hD; clear hD; have hge := own_ge ho; have HO : Hid (w7.ownsRow _ 123 11 (.slice a7 D.n c7) D.n (cellsOf D.q D.n)) := ho; clear ho; (first | (have hzl := HZ.out.lt; have HZ' := HZ.out.call hb7; clear HZ zc zd zf zl; have HZ : Hid _ := HZ'; clear HZ'; have zc := HZ.out.c0; have zd := HZ.out.c1; obtain ⟨zv, zc⟩ := zc; obtain ⟨zu, zd⟩ := zd; have zf := HZ.out.fr; have zl := HZ.out.lt; have HNe : Hid _ := ZT.neq HZ.out hge hzl; clear hzl) | (have HZ' := ZT.made Hb.out.size hb7; have HZ : Hid _ := HZ'; clear HZ'; have zc := HZ.out.c0; have zd := HZ.out.c1; obtain ⟨zv, zc⟩ := zc; obtain ⟨zu, zd⟩ := zd; have zf := HZ.out.fr; have zl := HZ.out.lt; have HNe : Hid _ := ZT.neq HZ.out hge (by simp)) | (have HZ' := ZT.madeD Hb.out.size hb7; have HZ : Hid _ := HZ'; clear HZ'; have zc := HZ.out.c0; have zd := HZ.out.c1; obtain ⟨zv, zc⟩ := zc; obtain ⟨zu, zd⟩ := zd; have zf := HZ.out.fr; have zl := HZ.out.lt; have HNe : Hid _ := ZT.neq HZ.out hge (by simp)) | skip); replace Hb : Hid (Below (gl3 w a n cap t x v).heap.size (gl3 w a n cap t x v) w7) := (by first | exact below_ix Hb.out hb7 | exact below_ix Hb.out.drew hb7 | exact below_ix (below_a Hb.out _) hb7 | exact below_ix (below_a Hb.out _).drew hb7 | exact below_ix (below_a Hb.out.drew _) hb7); clear hb7; clear hge))
      all_goals go_wp2_with fail
      all_goals go_meet
      all_goals first | (with_reducible exact ⟨_, D, a7, c7, rfl, Has.new _ _ _, HD.out, (own_tab HO.out).alloc _, lt_of_own (HO.out.alloc _), below_a Hb.out _⟩) | (with_reducible exact ⟨_, D, a7, c7, rfl, ZT.set2 HZ.out _ _, HD.out, own_tab (own_set (own_set HO.out HNe.out _ _) HNe.out _ _), lt_of_own (own_set (own_set HO.out HNe.out _ _) HNe.out _ _), st1 (st1 Hb.out HZ.out.lo _) HZ.out.lo _⟩)
  case rest =>
    as_aux_lemma =>
      obtain ⟨B6, D, a6, c6, rfl, h6, hD6, ht6, hl6, hB6⟩ := hcut
      have H6 : Hid (Has wc B6 #[.slice a6 D.n c6, .int .i64 D.t]) := h6
      have HD6 : Hid (PutSays n t q x v D) := hD6
      have HT6 : Hid (Tab wc a6 D.n D.q) := ht6
      have HL6 : Hid (∀ b off sp, a6 = some ⟨b, off, sp⟩ → b < wc.heap.size) := hl6
      replace Hb : Hid (Below (gl3 w a n cap t x v).heap.size (gl3 w a n cap t x v) wc) := hB6
      clear h6 hD6 ht6 hl6 hB6
      obtain ⟨x0, x1, y0, y1, y2, y3, y4, z0, z1, z2, z3, z4⟩ := (gl3_cells Hb.out).c
      go_wp2_with fail
      clear x0 x1 y0 y1 y2 y3 y4 z0 z1 z2 z3 z4
      refine (toTable_calls a n cap t q _ hn (HT0.out.below Hb.out)).mono ?_
      rintro e w8 ⟨⟨Bc, rfl, hBc, hR⟩, hb8⟩
      have HNc : Hid (Bc < w8.heap.size ∧ (gl3 w a n cap t x v).heap.size ≤ Bc ∧ B6 < Bc ∧ ∀ b off sp, a6 = some ⟨b, off, sp⟩ → b < Bc) := by
        obtain ⟨cc, hh, _⟩ := hR
        exact ⟨(Array.getElem?_eq_some_iff.1 hh).1, Nat.le_trans Hb.out.size hBc, Nat.lt_of_lt_of_le H6.out.lt hBc, fun b off sp e => Nat.lt_of_lt_of_le (HL6.out b off sp e) hBc⟩
      have HRc : Hid (RowW (w8.alloc (.cells #[.slice (some ⟨Bc, 0, none⟩) n n, .int .i64 t] 59)) (some ⟨Bc, 0, none⟩) n) := (RowW.of_row hR).below (below_alloc _ _)
      have HTc : Hid (Tab (w8.alloc (.cells #[.slice (some ⟨Bc, 0, none⟩) n n, .int .i64 t] 59)) (some ⟨Bc, 0, none⟩) n q) := (row_tab hR).alloc _
      replace H6 : Hid (Has (w8.alloc (.cells #[.slice (some ⟨Bc, 0, none⟩) n n, .int .i64 t] 59)) B6 #[.slice a6 D.n c6, .int .i64 D.t]) := (H6.out.call hb8).alloc _
      replace HT6 : Hid (Tab (w8.alloc (.cells #[.slice (some ⟨Bc, 0, none⟩) n n, .int .i64 t] 59)) a6 D.n D.q) := (HT6.out.below hb8).alloc _
      replace Hb : Hid (Below (gl3 w a n cap t x v).heap.size (gl3 w a n cap t x v) (w8.alloc (.cells #[.slice (some ⟨Bc, 0, none⟩) n n, .int .i64 t] 59))) := below_a (below_ix Hb.out hb8) _
      have HXb : Hid (TBox (w8.alloc (.cells #[.slice (some ⟨Bc, 0, none⟩) n n, .int .i64 t] 59)) w8.heap.size (some ⟨Bc, 0, none⟩) n n t) := TBox.new w8 _ n n t _
      clear hR hb8 hBc HL6
      go_upto_region 13 with fail
      have HX8 : Hid ((w8.alloc (.cells #[.slice (some ⟨Bc, 0, none⟩) n n, .int .i64 t] 59)).heap.size = w8.heap.size + 1) := by show _ = _; simp
      obtain ⟨W1, hW1⟩ : ∃ W1, (w8.alloc (.cells #[.slice (some ⟨Bc, 0, none⟩) n n, .int .i64 t] 59)) = W1 := ⟨_, rfl⟩
      rw [hW1] at HRc HTc H6 HT6 Hb HXb HX8 ⊢
      clear hW1
      have Hc : Hid (Below W1.heap.size W1 W1) := Below.refl _ _
      go_cut [10] (fun s10 wc => ∃ B7 D a7 c7, s10 = .pointer (some ⟨B7, 0, none⟩) ∧ Has wc B7 #[.slice a7 D.n c7, .int .i64 D.t] ∧ PutSays n t q x v D ∧ wc.ownsRow W1.heap.size 123 11 (.slice a7 D.n c7) D.n (cellsOf D.q D.n) ∧ (∀ b off sp, a7 = some ⟨b, off, sp⟩ → b ≠ B7) ∧ W1.heap.size ≤ B7 ∧ Below W1.heap.size W1 wc)
      case first =>
        as_aux_lemma =>
          go_region_held3 (fun w' => w'.cell? ⟨w8.heap.size, 0, none⟩ = some (.slice (some ⟨Bc, 0, none⟩) n n) ∧ w'.cell? ⟨w8.heap.size, 1, none⟩ = some (.int .i64 t) ∧ w'.cell? ⟨w.heap.size + 1, 0, none⟩ = some (.int .i64 x.k) ∧ w'.cell? ⟨w.heap.size + 1, 1, none⟩ = some (.int .i64 x.n) ∧ w'.cell? ⟨w.heap.size + 1, 2, none⟩ = some (.float .f64 x.f) ∧ w'.cell? ⟨w.heap.size + 1, 3, none⟩ = some (.string x.s) ∧ w'.cell? ⟨w.heap.size + 1, 4, none⟩ = some (.int .i64 x.r) ∧ w'.cell? ⟨w.heap.size + 1 + 1, 0, none⟩ = some (.int .i64 v.k) ∧ w'.cell? ⟨w.heap.size + 1 + 1, 1, none⟩ = some (.int .i64 v.n) ∧ w'.cell? ⟨w.heap.size + 1 + 1, 2, none⟩ = some (.float .f64 v.f) ∧ w'.cell? ⟨w.heap.size + 1 + 1, 3, none⟩ = some (.string v.s) ∧ w'.cell? ⟨w.heap.size + 1 + 1, 4, none⟩ = some (.int .i64 v.r)) (first | (with_reducible exact ⟨(HXb.out.call Hc.out).c0, (HXb.out.call Hc.out).c1, (gl3_cells (below_ix Hb.out Hc.out)).c.2.2⟩) | (with_reducible exact ⟨(HXb.out.call Hc.out.drew).c0, (HXb.out.call Hc.out.drew).c1, (gl3_cells (below_ix Hb.out Hc.out.drew)).c.2.2⟩) | (with_reducible exact ⟨(HXb.out.call (below_a Hc.out _)).c0, (HXb.out.call (below_a Hc.out _)).c1, (gl3_cells (below_ix Hb.out (below_a Hc.out _))).c.2.2⟩) | (with_reducible exact ⟨(HXb.out.call (below_a Hc.out _).drew).c0, (HXb.out.call (below_a Hc.out _).drew).c1, (gl3_cells (below_ix Hb.out (below_a Hc.out _).drew)).c.2.2⟩) | (with_reducible exact ⟨(HXb.out.call (below_a Hc.out.drew _)).c0, (HXb.out.call (below_a Hc.out.drew _)).c1, (gl3_cells (below_ix Hb.out (below_a Hc.out.drew _))).c.2.2⟩) | (with_reducible exact ⟨(HXb.out.call (st1 (st1 Hc.out HZ.out.lo _) HZ.out.lo _)).c0, (HXb.out.call (st1 (st1 Hc.out HZ.out.lo _) HZ.out.lo _)).c1, (gl3_cells (below_ix Hb.out (st1 (st1 Hc.out HZ.out.lo _) HZ.out.lo _))).c.2.2⟩)) (first | (go_at_call 29; refine (to_calls _ _ _ _ _ _).mono ?_; rintro e w6 ⟨rfl, hb6⟩; (first | (have hzl := HZ.out.lt; have HZ' := HZ.out.call hb6; clear HZ zc zd zf zl; have HZ : Hid _ := HZ'; clear HZ'; have zc := HZ.out.c0; have zd := HZ.out.c1; obtain ⟨zv, zc⟩ := zc; obtain ⟨zu, zd⟩ := zd; have zf := HZ.out.fr; have zl := HZ.out.lt; clear hzl) | (have HZ' := ZT.made Hc.out.size hb6; have HZ : Hid _ := HZ'; clear HZ'; have zc := HZ.out.c0; have zd := HZ.out.c1; obtain ⟨zv, zc⟩ := zc; obtain ⟨zu, zd⟩ := zd; have zf := HZ.out.fr; have zl := HZ.out.lt) | (have HZ' := ZT.madeD Hc.out.size hb6; have HZ : Hid _ := HZ'; clear HZ'; have zc := HZ.out.c0; have zd := HZ.out.c1; obtain ⟨zv, zc⟩ := zc; obtain ⟨zu, zd⟩ := zd; have zf := HZ.out.fr; have zl := HZ.out.lt) | skip); replace Hc : Hid (Below W1.heap.size W1 w6) := (by first | exact below_ix Hc.out hb6 | exact below_ix Hc.out.drew hb6 | exact below_ix (below_a Hc.out _) hb6 | exact below_ix (below_a Hc.out _).drew hb6 | exact below_ix (below_a Hc.out.drew _) hb6); clear hb6) | (go_at_call 30; refine (implPut_calls _ n n t q x v _ hn hQ.out Hf.out.1.1 (by first | exact HTc.out.below Hc.out | exact HTc.out.below Hc.out.drew | exact HTc.out.below (below_a Hc.out _) | exact HTc.out.below (below_a Hc.out _).drew | exact HTc.out.below (below_a Hc.out.drew _))).mono ?_; rintro e w7 ⟨⟨D, hD, a7, c7, rfl, ho⟩, hb7⟩; have HD : Hid (PutSays n t q x v D) := hD; clear hD; have hge := own_ge ho; have ho := own_mono ho (M := W1.heap.size) (by first | exact Hc.out.size | exact Hc.out.drew.size | exact (below_a Hc.out _).size | exact (below_a Hc.out _).drew.size | exact (below_a Hc.out.drew _).size); have HO : Hid (w7.ownsRow _ 123 11 (.slice a7 D.n c7) D.n (cellsOf D.q D.n)) := ho; clear ho; (first | (have hzl := HZ.out.lt; have HZ' := HZ.out.call hb7; clear HZ zc zd zf zl; have HZ : Hid _ := HZ'; clear HZ'; have zc := HZ.out.c0; have zd := HZ.out.c1; obtain ⟨zv, zc⟩ := zc; obtain ⟨zu, zd⟩ := zd; have zf := HZ.out.fr; have zl := HZ.out.lt; have HNe : Hid _ := ZT.neq HZ.out hge hzl; clear hzl) | (have HZ' := ZT.made Hc.out.size hb7; have HZ : Hid _ := HZ'; clear HZ'; have zc := HZ.out.c0; have zd := HZ.out.c1; obtain ⟨zv, zc⟩ := zc; obtain ⟨zu, zd⟩ := zd; have zf := HZ.out.fr; have zl := HZ.out.lt; have HNe : Hid _ := ZT.neq HZ.out hge (by simp)) | (have HZ' := ZT.madeD Hc.out.size hb7; have HZ : Hid _ := HZ'; clear HZ'; have zc := HZ.out.c0; have zd := HZ.out.c1; obtain ⟨zv, zc⟩ := zc; obtain ⟨zu, zd⟩ := zd; have zf := HZ.out.fr; have zl := HZ.out.lt; have HNe : Hid _ := ZT.neq HZ.out hge (by simp)) | skip); replace Hc : Hid (Below W1.heap.size W1 w7) := (by first | exact below_ix Hc.out hb7 | exact below_ix Hc.out.drew hb7 | exact below_ix (below_a Hc.out _) hb7 | exact below_ix (below_a Hc.out _).drew hb7 | exact below_ix (below_a Hc.out.drew _) hb7); clear hb7; clear hge))
          all_goals go_wp2_with fail
          all_goals go_meet
          all_goals first | (with_reducible exact ⟨_, D, a7, c7, rfl, Has.new _ _ _, HD.out, HO.out.alloc _, ne_new HO.out, Hc.out.size, below_a Hc.out _⟩) | (with_reducible exact ⟨_, D, a7, c7, rfl, ZT.set2 HZ.out _ _, HD.out, own_set (own_set HO.out HNe.out _ _) HNe.out _ _, HNe.out, HZ.out.lo, st1 (st1 Hc.out HZ.out.lo _) HZ.out.lo _⟩)
      case rest =>
        as_aux_lemma =>
          obtain ⟨B9, D', a9, c9, rfl, h9, hD9, ho9, hne9, hlo9, hB9⟩ := hcut
          have heq : D' = D := hD9.one HD6.out
          subst heq
          have HDD : Hid (PutSays n t q x v D') := hD9
          have HWf : Hid (D'.n ≤ 501 ∧ ∀ i, i < D'.n → (D'.q i).wf) := hD9.wf hQ.out Hf.out.1.1 Hf.out.1.2 Hf.out.2.1 Hf.out.2.2
          obtain ⟨g0, g1, g2⟩ := gl3_has w a n cap t x v
          have HLS : Hid (LS w a n cap t x v B6 a6 c6 B9 a9 c9 D' D'.q wc) := ⟨g0.call (below_ix Hb.out hB9), g1.call (below_ix Hb.out hB9), g2.call (below_ix Hb.out hB9), H6.out.call hB9, HT6.out.below hB9, h9, own_tab ho9, below_call (below_alloc3 _ _ _ _) (below_ix Hb.out hB9)⟩
          have HN9 : Hid (∀ k, blkOf a9 = some k → W1.heap.size ≤ k ∧ k ≠ B9) := fun k e => by
            cases a9 with
            | none => cases e
            | some y =>
              obtain ⟨b, off, sp⟩ := y
              cases e
              exact ⟨own_ge ho9 b off sp rfl, hne9 b off sp rfl⟩
          have HFar : Hid (FarC w B6 a6 B9 a9 Bc) := FarC.of (gl3_size w a n cap t x v) HX8.out HNc.out hlo9 HN9.out
          have HK : Hid (PK w a n cap t x v B6 a6 c6 B9 a9 c9 D' q w8.heap.size Bc wc) := ⟨HLS.out, HXb.out.call hB9, HTc.out.below hB9, HRc.out.below hB9, RowW.of_own ho9⟩
          clear h9 hD9 ho9 hne9 hlo9 hB9 g0 g1 g2 H6 HT6 HD6 Hb HLS HXb HTc HRc HN9 HNc HX8 HT0 Hc
          obtain ⟨h60, h61⟩ := HK.out.ls.c6
          obtain ⟨h90, h91⟩ := HK.out.ls.c9
          go_wp2_with fail
          refine (eqTable_calls a9 a6 D'.n c9 c6 D'.t D'.q _ (by have := HWf.out.1; omega) HWf.out.2 HK.out.ls.t9 HK.out.ls.t6).mono ?_
          rintro e wE ⟨rfl, hbE⟩
          replace HK : Hid (PK w a n cap t x v B6 a6 c6 B9 a9 c9 D' q w8.heap.size Bc wE) := HK.out.call hbE
          clear hbE h60 h61 h90 h91
          obtain ⟨x0, x1, y0, y1, y2, y3, y4, z0, z1, z2, z3, z4⟩ := HK.out.ls.g.c
          clear y0 y1 y2 y3 y4 z0 z1 z2 z3 z4
          have e0 := HK.out.xb.c0
          have e1 := HK.out.xb.c1
          have HT1 : Hid (Tab wE a n q) := HTw.out.below HK.out.ls.b
          go_upto_region 16 with fail
          go_cut [53] (fun s wc => s = .bool false ∧ PK w a n cap t x v B6 a6 c6 B9 a9 c9 D' q w8.heap.size Bc wc)
          case first =>
            as_aux_lemma =>
              go_region_with (first | (go_at_call 28; refine (toTable_calls a n cap t q _ hn (by first | exact HT1.out | exact HT1.out.drew)).mono ?_; rintro e wF ⟨⟨B5, rfl, _, hR5⟩, hb5⟩; have hT5 : Hid (Tab wF (some ⟨B5, 0, none⟩) n q) := row_tab hR5; replace HK : Hid (PK w a n cap t x v B6 a6 c6 B9 a9 c9 D' q w8.heap.size Bc wF) := (by first | exact HK.out.call hb5 | exact HK.out.drew.call hb5); clear hb5 hR5 x0 x1 e0 e1; have e0 := HK.out.xb.c0; have e1 := HK.out.xb.c1) | (go_at_call 31; refine (eqTable_calls _ _ n n n t q _ hn hQ.out (by first | exact HK.out.tc | exact HK.out.drew.tc) (by first | exact hT5.out | exact hT5.out.drew)).mono ?_; rintro e wG ⟨rfl, hb7⟩; replace HK : Hid (PK w a n cap t x v B6 a6 c6 B9 a9 c9 D' q w8.heap.size Bc wG) := (by first | exact HK.out.call hb7 | exact HK.out.drew.call hb7); clear hb7 e0 e1))
              all_goals go_wp2_with fail
              all_goals go_meet
              all_goals exact ⟨rfl, HK.out⟩
          case rest =>
            as_aux_lemma =>
              obtain ⟨rfl, hK⟩ := hcut
              replace HK : Hid (PK w a n cap t x v B6 a6 c6 B9 a9 c9 D' q w8.heap.size Bc wc) := hK
              clear hK x0 x1 e0 e1 HT1
              have e0 := HK.out.xb.c0
              have e1 := HK.out.xb.c1
              go_wp2_with fail
              refine (markTable_calls (some ⟨Bc, 0, none⟩) n n t 1 _ (by omega) (by omega) HK.out.rc).mono ?_
              rintro e wM ⟨rfl, _, hgM⟩
              obtain ⟨hl, hr⟩ := HK.out.marked HFar.out hgM
              have HLS : Hid (LS w a n cap t x v B6 a6 c6 B9 a9 c9 D' D'.q wM) := hl
              have HR9 : Hid (RowW wM a9 D'.n) := hr
              clear hl hr hgM e0 e1 HK
              obtain ⟨m1, hm1⟩ : ∃ m1 : Nat, 1 + n * 11 = m1 := ⟨_, rfl⟩
              rw [hm1]
              clear hm1
              have Hm2 : Hid (∃ m2 : Nat, 1 + D'.n * 11 = m2) := ⟨_, rfl⟩
              obtain ⟨h60, h61⟩ := HLS.out.c6
              obtain ⟨h90, h91⟩ := HLS.out.c9
              go_wp2_with fail
              refine (eqTable_calls a9 a6 D'.n c9 c6 D'.t D'.q _ (by have := HWf.out.1; omega) HWf.out.2 HLS.out.t9 HLS.out.t6).mono ?_
              rintro e wN ⟨rfl, hbN⟩
              replace HLS : Hid (LS w a n cap t x v B6 a6 c6 B9 a9 c9 D' D'.q wN) := HLS.out.call hbN
              replace HR9 : Hid (RowW wN a9 D'.n) := HR9.out.below hbN
              clear hbN h60 h61 h90 h91
              obtain ⟨h90, h91⟩ := HLS.out.c9
              go_wp2_with fail
              clear h90 h91
              refine (markTable_calls a9 D'.n c9 D'.t 1 _ (by omega) (by have := HWf.out.1; omega) HR9.out).mono ?_
              rintro e wP ⟨rfl, h9t, hgP⟩
              replace HLS : Hid (LS w a n cap t x v B6 a6 c6 B9 a9 c9 D' (mkq 1) wP) := HLS.out.marked HFar.out hgP h9t
              clear h9t hgP HR9
              obtain ⟨m2, hm2⟩ := Hm2.out
              rw [hm2]
              replace Hm2 : Hid (1 + D'.n * 11 = m2) := hm2
              clear hm2
              obtain ⟨h90, h91⟩ := HLS.out.c9
              go_wp2_with fail
              clear h90 h91
              refine (heldTable_calls a9 D'.n c9 D'.t 1 _ (by omega) (by have := HWf.out.1; omega) HLS.out.t9).mono ?_
              rintro e wH ⟨rfl, hbH⟩
              rw [Hm2.out]
              replace HLS : Hid (LS w a n cap t x v B6 a6 c6 B9 a9 c9 D' (mkq 1) wH) := HLS.out.call hbH
              clear hbH
              go_upto_region 30 with fail
              have HT2 : Hid (Tab wH a n q) := HTw.out.below HLS.out.b
              have Hd : Hid (Below wH.heap.size wH wH) := Below.refl _ _
              go_cut [14] (fun s14 wc => ∃ B7 D a7 c7, s14 = .pointer (some ⟨B7, 0, none⟩) ∧ Has wc B7 #[.slice a7 D.n c7, .int .i64 D.t] ∧ PutSays n t q x v D ∧ Tab wc a7 D.n D.q ∧ Below wH.heap.size wH wc)
              case first =>
                as_aux_lemma =>
                  go_region_held3 (fun w' => w'.cell? ⟨w.heap.size, 0, none⟩ = some (.slice a n cap) ∧ w'.cell? ⟨w.heap.size, 1, none⟩ = some (.int .i64 t) ∧ w'.cell? ⟨w.heap.size + 1, 0, none⟩ = some (.int .i64 x.k) ∧ w'.cell? ⟨w.heap.size + 1, 1, none⟩ = some (.int .i64 x.n) ∧ w'.cell? ⟨w.heap.size + 1, 2, none⟩ = some (.float .f64 x.f) ∧ w'.cell? ⟨w.heap.size + 1, 3, none⟩ = some (.string x.s) ∧ w'.cell? ⟨w.heap.size + 1, 4, none⟩ = some (.int .i64 x.r) ∧ w'.cell? ⟨w.heap.size + 1 + 1, 0, none⟩ = some (.int .i64 v.k) ∧ w'.cell? ⟨w.heap.size + 1 + 1, 1, none⟩ = some (.int .i64 v.n) ∧ w'.cell? ⟨w.heap.size + 1 + 1, 2, none⟩ = some (.float .f64 v.f) ∧ w'.cell? ⟨w.heap.size + 1 + 1, 3, none⟩ = some (.string v.s) ∧ w'.cell? ⟨w.heap.size + 1 + 1, 4, none⟩ = some (.int .i64 v.r)) (first | (with_reducible exact (HLS.out.call Hd.out).g.c) | (with_reducible exact (HLS.out.call Hd.out.drew).g.c) | (with_reducible exact (HLS.out.call (below_a Hd.out _)).g.c) | (with_reducible exact (HLS.out.call (below_a Hd.out _).drew).g.c) | (with_reducible exact (HLS.out.call (below_a Hd.out.drew _)).g.c) | (with_reducible exact (HLS.out.call (st1 (st1 Hd.out HZ.out.lo _) HZ.out.lo _)).g.c)) (first | (go_at_call 28; refine (toTable_calls a n cap t q _ hn (by first | exact HT2.out.below Hd.out | exact HT2.out.below Hd.out.drew | exact HT2.out.below (below_a Hd.out _) | exact HT2.out.below (below_a Hd.out _).drew | exact HT2.out.below (below_a Hd.out.drew _))).mono ?_; rintro e w5 ⟨⟨B5, rfl, _, hR5⟩, hb5⟩; have HTn : Hid (Tab w5 (some ⟨B5, 0, none⟩) n q) := row_tab hR5; clear hR5; (first | (have hzl := HZ.out.lt; have HZ' := HZ.out.call hb5; clear HZ zc zd zf zl; have HZ : Hid _ := HZ'; clear HZ'; have zc := HZ.out.c0; have zd := HZ.out.c1; obtain ⟨zv, zc⟩ := zc; obtain ⟨zu, zd⟩ := zd; have zf := HZ.out.fr; have zl := HZ.out.lt; clear hzl) | (have HZ' := ZT.made Hd.out.size hb5; have HZ : Hid _ := HZ'; clear HZ'; have zc := HZ.out.c0; have zd := HZ.out.c1; obtain ⟨zv, zc⟩ := zc; obtain ⟨zu, zd⟩ := zd; have zf := HZ.out.fr; have zl := HZ.out.lt) | (have HZ' := ZT.madeD Hd.out.size hb5; have HZ : Hid _ := HZ'; clear HZ'; have zc := HZ.out.c0; have zd := HZ.out.c1; obtain ⟨zv, zc⟩ := zc; obtain ⟨zu, zd⟩ := zd; have zf := HZ.out.fr; have zl := HZ.out.lt) | skip); replace Hd : Hid (Below wH.heap.size wH w5) := (by first | exact below_ix Hd.out hb5 | exact below_ix Hd.out.drew hb5 | exact below_ix (below_a Hd.out _) hb5 | exact below_ix (below_a Hd.out _).drew hb5 | exact below_ix (below_a Hd.out.drew _) hb5); clear hb5) | (go_at_call 29; refine (to_calls _ _ _ _ _ _).mono ?_; rintro e w6 ⟨rfl, hb6⟩; (try replace HTn : Hid (Tab w6 (some ⟨B5, 0, none⟩) n q) := (by first | exact HTn.out.below hb6 | exact HTn.out.drew.below hb6 | exact (HTn.out.alloc _).below hb6 | exact (HTn.out.alloc _).drew.below hb6 | exact (HTn.out.drew.alloc _).below hb6)); (first | (have hzl := HZ.out.lt; have HZ' := HZ.out.call hb6; clear HZ zc zd zf zl; have HZ : Hid _ := HZ'; clear HZ'; have zc := HZ.out.c0; have zd := HZ.out.c1; obtain ⟨zv, zc⟩ := zc; obtain ⟨zu, zd⟩ := zd; have zf := HZ.out.fr; have zl := HZ.out.lt; clear hzl) | (have HZ' := ZT.made Hd.out.size hb6; have HZ : Hid _ := HZ'; clear HZ'; have zc := HZ.out.c0; have zd := HZ.out.c1; obtain ⟨zv, zc⟩ := zc; obtain ⟨zu, zd⟩ := zd; have zf := HZ.out.fr; have zl := HZ.out.lt) | (have HZ' := ZT.madeD Hd.out.size hb6; have HZ : Hid _ := HZ'; clear HZ'; have zc := HZ.out.c0; have zd := HZ.out.c1; obtain ⟨zv, zc⟩ := zc; obtain ⟨zu, zd⟩ := zd; have zf := HZ.out.fr; have zl := HZ.out.lt) | skip); replace Hd : Hid (Below wH.heap.size wH w6) := (by first | exact below_ix Hd.out hb6 | exact below_ix Hd.out.drew hb6 | exact below_ix (below_a Hd.out _) hb6 | exact below_ix (below_a Hd.out _).drew hb6 | exact below_ix (below_a Hd.out.drew _) hb6); clear hb6) | (go_at_call 30; refine (implPut_calls _ n n t q x v _ hn hQ.out Hf.out.1.1 (by first | exact HTn.out | exact HTn.out.drew | exact (HTn.out.alloc _) | exact (HTn.out.alloc _).drew | exact (HTn.out.drew.alloc _))).mono ?_; rintro e w7 ⟨⟨D, hD, a7, c7, rfl, ho⟩, hb7⟩; have HD : Hid (PutSays n t q x v D) := hD; clear hD; have hge := own_ge ho; have HO : Hid (w7.ownsRow _ 123 11 (.slice a7 D.n c7) D.n (cellsOf D.q D.n)) := ho; clear ho; (first | (have hzl := HZ.out.lt; have HZ' := HZ.out.call hb7; clear HZ zc zd zf zl; have HZ : Hid _ := HZ'; clear HZ'; have zc := HZ.out.c0; have zd := HZ.out.c1; obtain ⟨zv, zc⟩ := zc; obtain ⟨zu, zd⟩ := zd; have zf := HZ.out.fr; have zl := HZ.out.lt; have HNe : Hid _ := ZT.neq HZ.out hge hzl; clear hzl) | (have HZ' := ZT.made Hd.out.size hb7; have HZ : Hid _ := HZ'; clear HZ'; have zc := HZ.out.c0; have zd := HZ.out.c1; obtain ⟨zv, zc⟩ := zc; obtain ⟨zu, zd⟩ := zd; have zf := HZ.out.fr; have zl := HZ.out.lt; have HNe : Hid _ := ZT.neq HZ.out hge (by simp)) | (have HZ' := ZT.madeD Hd.out.size hb7; have HZ : Hid _ := HZ'; clear HZ'; have zc := HZ.out.c0; have zd := HZ.out.c1; obtain ⟨zv, zc⟩ := zc; obtain ⟨zu, zd⟩ := zd; have zf := HZ.out.fr; have zl := HZ.out.lt; have HNe : Hid _ := ZT.neq HZ.out hge (by simp)) | skip); replace Hd : Hid (Below wH.heap.size wH w7) := (by first | exact below_ix Hd.out hb7 | exact below_ix Hd.out.drew hb7 | exact below_ix (below_a Hd.out _) hb7 | exact below_ix (below_a Hd.out _).drew hb7 | exact below_ix (below_a Hd.out.drew _) hb7); clear hb7; clear hge))
                  all_goals go_wp2_with fail
                  all_goals go_meet
                  all_goals first | (with_reducible exact ⟨_, D, a7, c7, rfl, Has.new _ _ _, HD.out, (own_tab HO.out).alloc _, below_a Hd.out _⟩) | (with_reducible exact ⟨_, D, a7, c7, rfl, ZT.set2 HZ.out _ _, HD.out, own_tab (own_set (own_set HO.out HNe.out _ _) HNe.out _ _), st1 (st1 Hd.out HZ.out.lo _) HZ.out.lo _⟩)
              case rest =>
                as_aux_lemma =>
                  obtain ⟨B7, D7, a7, c7, rfl, h7, hD7, ht7, hb7⟩ := hcut
                  have heq : D7 = D' := hD7.one HDD.out
                  subst heq
                  replace HLS : Hid (LS w a n cap t x v B6 a6 c6 B9 a9 c9 D7 (mkq 1) wc) := HLS.out.call hb7
                  have HT7 : Hid (Tab wc a7 D7.n D7.q) := ht7
                  clear ht7 hb7 HT2 Hd
                  have h70 := h7.at 0
                  have h71 := h7.at 1
                  simp only [List.getElem?_toArray, List.getElem?_cons_zero, List.getElem?_cons_succ] at h70 h71
                  obtain ⟨h60, h61⟩ := HLS.out.c6
                  go_wp2_with fail
                  clear h70 h71 h60 h61
                  refine (eqTable_calls a7 a6 D7.n c7 c6 D7.t D7.q _ (by have := HWf.out.1; omega) HWf.out.2 HT7.out HLS.out.t6).mono ?_
                  rintro e wR ⟨rfl, hbR⟩
                  replace HLS : Hid (LS w a n cap t x v B6 a6 c6 B9 a9 c9 D7 (mkq 1) wR) := HLS.out.call hbR
                  clear hbR HT7 h7
                  obtain ⟨h90, h91⟩ := HLS.out.c9
                  go_wp2_with fail
                  clear h90 h91
                  refine (heldTable_calls a9 D7.n c9 D7.t 1 _ (by omega) (by have := HWf.out.1; omega) HLS.out.t9).mono ?_
                  rintro e wU ⟨rfl, hbU⟩
                  rw [Hm2.out]
                  have HB : Hid (Below w.heap.size w wU) := (HLS.out.call hbU).b
                  clear hbU
                  go_wp2_with fail
                  go_ret
                  exact ⟨rfl, HB.out⟩
end Go.Proofs.Ytiidepafifodjaa
