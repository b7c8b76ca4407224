import Derived.Test.YtiidepafifodjabTabT
import Derived.Test.YtiidepafifodjabTabLaw
import Derived.Test.YtiidepafifodjabHas
import Derived.Deep.DeepCutAuto
/-! FnExactGet: the walk. -/
namespace Go.Proofs.Ytiidepafifodjab
open Go.RowKit
attribute [local go_sem] run_store_float
attribute [local go_sem ↓] Go.wp_at_zero Go.wp_at_succ

theorem GetSays.f {n : Nat} {t : Int} {q : Nat → PD} {x v : VD} (h : GetSays n t q x v) (hq : ∀ i, i < n → (q i).wf) : v.f < 2 ^ 64 := by
  have z : vz.f < 2 ^ 64 := by show 0 < 2 ^ 64; decide
  rcases h with ⟨_, rfl⟩ | ⟨_, rfl⟩
  · split
    · unfold gt
      split
      · rename_i i hi
        exact (hq i (fnd_at hi).1).f2
      · exact z
    · exact z
  · exact z

abbrev vC (x : VD) : Array Value := #[.int .i64 x.k, .int .i64 x.n, .float .f64 x.f, .string x.s, .int .i64 x.r]
abbrev gl (w : World) (a : Option Addr) (n cap : Nat) (t : Int) (x : VD) : World := (w.alloc (.cells #[.slice a n cap, .int .i64 t] 35)).alloc (.cells #[.int .i64 x.k, .int .i64 x.n, .float .f64 x.f, .string x.s, .int .i64 x.r] 24)
theorem gl_cells {w : World} {a : Option Addr} {n cap : Nat} {t : Int} {x : VD} {w' : World} (hB : Below (gl w a n cap t x).heap.size (gl w a n cap t x) w') : w'.cell? ⟨w.heap.size, 0, none⟩ = some (.slice a n cap) ∧ w'.cell? ⟨w.heap.size, 1, none⟩ = some (.int .i64 t) ∧ w'.cell? ⟨w.heap.size + 1, 0, none⟩ = some (.int .i64 x.k) ∧ w'.cell? ⟨w.heap.size + 1, 1, none⟩ = some (.int .i64 x.n) ∧ w'.cell? ⟨w.heap.size + 1, 2, none⟩ = some (.float .f64 x.f) ∧ w'.cell? ⟨w.heap.size + 1, 3, none⟩ = some (.string x.s) ∧ w'.cell? ⟨w.heap.size + 1, 4, none⟩ = some (.int .i64 x.r) := by
  refine ⟨?_, ?_, ?_, ?_, ?_, ?_, ?_⟩
  · rw [hB.cell (by simp; omega)]; simp
  · rw [hB.cell (by simp; omega)]; simp
  · rw [hB.cell (by simp)]; simp
  · rw [hB.cell (by simp)]; simp
  · rw [hB.cell (by simp)]; simp
  · rw [hB.cell (by simp)]; simp
  · rw [hB.cell (by simp)]; simp

/-- a local of one's own, at or above N -/
structure ZB (N : Nat) (w : World) (B : Nat) (A : Array Value) : Prop where
  lo : N ≤ B
  lt : B < w.heap.size
  ce : ∀ o, w.cell? ⟨B, o, none⟩ = A[o]?
  fr : ∀ o, w.frozen? ⟨B, o, none⟩ = false
theorem ZB.call {N : Nat} {u w : World} {B : Nat} {A : Array Value} (h : ZB N u B A) (hb : Below u.heap.size u w) : ZB N w B A :=
  ⟨h.lo, Nat.lt_of_lt_of_le h.lt hb.size, fun o => (hb.cell (p := ⟨B, o, none⟩) h.lt).trans (h.ce o), fun o => (hb.frozen (p := ⟨B, o, none⟩) h.lt).trans (h.fr o)⟩
theorem ZB.new {N : Nat} (w : World) (A : Array Value) (t : TypeId) (hN : N ≤ w.heap.size) : ZB N (w.alloc (.cells A t)) w.heap.size A :=
  ⟨hN, by simp, fun o => World.cell?_alloc_new w A t o, fun o => by simp⟩
theorem ZB.drew {N : Nat} {w : World} {B : Nat} {A : Array Value} (h : ZB N w B A) : ZB N w.drew B A := ⟨h.lo, h.lt, h.ce, h.fr⟩
theorem ZB.made {N : Nat} {u w : World} {A : Array Value} {t : TypeId} (hN : N ≤ u.heap.size) (hb : Below (u.alloc (.cells A t)).heap.size (u.alloc (.cells A t)) w) : ZB N w u.heap.size A := (ZB.new u A t hN).call hb
theorem ZB.madeD {N : Nat} {u w : World} {A : Array Value} {t : TypeId} (hN : N ≤ u.heap.size) (hb : Below (u.alloc (.cells A t)).drew.heap.size (u.alloc (.cells A t)).drew w) : ZB N w u.heap.size A := (ZB.new u A t hN).drew.call hb
theorem ZB.set5 {N : Nat} {w : World} {B : Nat} {A : Array Value} (h : ZB N w B A) (hA : A.size = 5) (v0 v1 v2 v3 v4 : Value) :
    Has (((((w.setCell ⟨B, 0, none⟩ v0).setCell ⟨B, 1, none⟩ v1).setCell ⟨B, 2, none⟩ v2).setCell ⟨B, 3, none⟩ v3).setCell ⟨B, 4, none⟩ v4) B #[v0, v1, v2, v3, v4] := by
  have hs : ∀ i, i < 5 → (w.cell? ⟨B, i, none⟩).isSome = true := fun i hi => by rw [h.ce i, Array.getElem?_eq_getElem (by omega)]; rfl
  have h0 := hs 0 (by omega)
  have h1 := hs 1 (by omega)
  have h2 := hs 2 (by omega)
  have h3 := hs 3 (by omega)
  have h4 := hs 4 (by omega)
  refine ⟨by have := h.lt; simpa using this, fun o => ?_⟩
  rcases o with _ | _ | _ | _ | _ | o
  · simp [go_sem, h0]
  · simp [go_sem, h1]
  · simp [go_sem, h2]
  · simp [go_sem, h3]
  · simp [go_sem, h4]
  · have := h.ce (o + 5)
    rw [Array.getElem?_eq_none (by omega)] at this
    simp [go_sem, this]

set_option maxRecDepth 100000 in
set_option maxHeartbeats 16000000 in
theorem get_walk (a : Option Addr) (n cap : Nat) (t : Int) (q : Nat → PD) (x : VD) (w : World) (hn : n ≤ maxLen) (hq : ∀ i, i < n → (q i).wf) (hT : Tab w a n q) (xf : x.f < 2 ^ 64) (xs : x.s.size ≤ maxLen) :
    Calls Try.prog 5 #[tOf a n cap t, x.v] w fun e w' => e = .returned (.bool true) ∧ Below w.heap.size w w' := by
  have hQ : Hid (∀ i, i < n → (q i).wf) := hq
  have hN : Hid (n ≤ maxLen) := hn
  have Hf : Hid (x.f < 2 ^ 64 ∧ x.s.size ≤ maxLen) := ⟨xf, xs⟩
  have HT0 : Hid (Tab (gl w a n cap t x) a n q) := (hT.alloc _).alloc _
  have Hb : Hid (Below (gl w a n cap t x).heap.size (gl w a n cap t x) (gl w a n cap t x)) := Below.refl _ _
  clear hq hT hn xf xs
  go_enter Try.func5, Try.ntmps5
  go_wp2_with fail
  refine (szTable_calls a n cap t q 1048576 _ (by omega) (by omega) hN.out hQ.out HT0.out).mono ?_
  rintro e w1 ⟨⟨u, rfl, hu⟩, hb1⟩
  replace Hb : Hid (Below (gl w a n cap t x).heap.size (gl w a n cap t x) w1) := hb1
  clear hb1
  rcases hu with rfl | ⟨u0, u1, u2⟩
  · go_wp2_with fail
    go_ret
    exact ⟨rfl, below_call (below_alloc2 _ _ _) Hb.out⟩
  have hn : n ≤ 1048576 := by omega
  obtain ⟨x0, x1, y0, y1, y2, y3, y4⟩ := gl_cells Hb.out
  go_wp2_with fail
  refine (sz_calls _ _ _ _ _ _ _ u0 (by omega) Hf.out.2).mono ?_
  by_cases hs : u < x.s.size
  · rw [if_pos hs]
    rintro e w2 ⟨rfl, hb2⟩
    replace Hb : Hid (Below (gl w a n cap t x).heap.size (gl w a n cap t x) w2) := below_ix Hb.out hb2
    clear hb2 x0 x1 y0 y1 y2 y3 y4
    go_wp2_with fail
    go_ret
    exact ⟨rfl, below_call (below_alloc2 _ _ _) Hb.out⟩
  rw [if_neg hs]
  rintro e w2 ⟨rfl, hb2⟩
  replace Hb : Hid (Below (gl w a n cap t x).heap.size (gl w a n cap t x) w2) := below_ix Hb.out hb2
  clear hb2 x0 x1 y0 y1 y2 y3 y4
  go_upto_region 8 with fail
  clear hs u0 u1 u2
  go_cut [6] (fun s6 wc => ∃ B6 v, s6 = .pointer (some ⟨B6, 0, none⟩) ∧ Has wc B6 (vC v) ∧ GetSays n t q x v ∧ Below (gl w a n cap t x).heap.size (gl w a n cap t x) wc)
  case first =>
    as_aux_lemma =>
      go_region_held3 (fun w' => w'.cell? ⟨w.heap.size, 0, none⟩ = some (.slice a n cap) ∧ w'.cell? ⟨w.heap.size, 1, none⟩ = some (.int .i64 t) ∧ w'.cell? ⟨w.heap.size + 1, 0, none⟩ = some (.int .i64 x.k) ∧ w'.cell? ⟨w.heap.size + 1, 1, none⟩ = some (.int .i64 x.n) ∧ w'.cell? ⟨w.heap.size + 1, 2, none⟩ = some (.float .f64 x.f) ∧ w'.cell? ⟨w.heap.size + 1, 3, none⟩ = some (.string x.s) ∧ w'.cell? ⟨w.heap.size + 1, 4, none⟩ = some (.int .i64 x.r)) (first | (with_reducible exact (gl_cells Hb.out)) | (with_reducible exact (gl_cells Hb.out.drew)) | (with_reducible exact (gl_cells (below_a Hb.out _))) | (with_reducible exact (gl_cells (below_a Hb.out _).drew)) | (with_reducible exact (gl_cells (below_a Hb.out.drew _))) | (with_reducible exact (gl_cells (set5 Hb.out HZ.out.lo _ _ _ _ _)))) (first | (go_at_call 17; refine (toTable_calls a n cap t q _ hn (by first | exact HT0.out.below Hb.out | exact HT0.out.below Hb.out.drew | exact HT0.out.below (below_a Hb.out _) | exact HT0.out.below (below_a Hb.out _).drew | exact HT0.out.below (below_a Hb.out.drew _))).mono ?_; rintro e w5 ⟨⟨B5, rfl, _, hR5⟩, hb5⟩; have HTn : Hid (Tab w5 (some ⟨B5, 0, none⟩) n q) := row_tab hR5; clear hR5; (first | (have HZ' := HZ.out.call hb5; clear HZ zc zf zl; have HZ : Hid _ := HZ'; clear HZ'; have zc := HZ.out.ce; have zf := HZ.out.fr; have zl := HZ.out.lt) | (have HZ' := ZB.made Hb.out.size hb5; have HZ : Hid _ := HZ'; clear HZ'; have zc := HZ.out.ce; have zf := HZ.out.fr; have zl := HZ.out.lt) | (have HZ' := ZB.madeD Hb.out.size hb5; have HZ : Hid _ := HZ'; clear HZ'; have zc := HZ.out.ce; have zf := HZ.out.fr; have zl := HZ.out.lt) | skip); replace Hb : Hid (Below (gl w a n cap t x).heap.size (gl w a n cap t x) w5) := (by first | exact below_ix Hb.out hb5 | exact below_ix Hb.out.drew hb5 | exact below_ix (below_a Hb.out _) hb5 | exact below_ix (below_a Hb.out _).drew hb5 | exact below_ix (below_a Hb.out.drew _) hb5); clear hb5) | (go_at_call 12; refine (to_calls _ _ _ _ _ _).mono ?_; rintro e w6 ⟨rfl, hb6⟩; (try replace HTn : Hid (Tab w6 (some ⟨B5, 0, none⟩) n q) := (by first | exact HTn.out.below hb6 | exact HTn.out.drew.below hb6 | exact (HTn.out.alloc _).below hb6 | exact (HTn.out.alloc _).drew.below hb6 | exact (HTn.out.drew.alloc _).below hb6)); (first | (have HZ' := HZ.out.call hb6; clear HZ zc zf zl; have HZ : Hid _ := HZ'; clear HZ'; have zc := HZ.out.ce; have zf := HZ.out.fr; have zl := HZ.out.lt) | (have HZ' := ZB.made Hb.out.size hb6; have HZ : Hid _ := HZ'; clear HZ'; have zc := HZ.out.ce; have zf := HZ.out.fr; have zl := HZ.out.lt) | (have HZ' := ZB.madeD Hb.out.size hb6; have HZ : Hid _ := HZ'; clear HZ'; have zc := HZ.out.ce; have zf := HZ.out.fr; have zl := HZ.out.lt) | skip); replace Hb : Hid (Below (gl w a n cap t x).heap.size (gl w a n cap t x) w6) := (by first | exact below_ix Hb.out hb6 | exact below_ix Hb.out.drew hb6 | exact below_ix (below_a Hb.out _) hb6 | exact below_ix (below_a Hb.out _).drew hb6 | exact below_ix (below_a Hb.out.drew _) hb6); clear hb6) | (go_at_call 20; refine (specGet_calls _ n n t q x _ hn hQ.out Hf.out.1 Hf.out.2 (by first | exact HTn.out | exact HTn.out.drew | exact (HTn.out.alloc _) | exact (HTn.out.alloc _).drew | exact (HTn.out.drew.alloc _))).mono ?_; rintro e w7 ⟨⟨v, rfl, hv⟩, hb7⟩; have HV : Hid (GetSays n t q x v) := hv; clear hv; (first | (have HZ' := HZ.out.call hb7; clear HZ zc zf zl; have HZ : Hid _ := HZ'; clear HZ'; have zc := HZ.out.ce; have zf := HZ.out.fr; have zl := HZ.out.lt) | (have HZ' := ZB.made Hb.out.size hb7; have HZ : Hid _ := HZ'; clear HZ'; have zc := HZ.out.ce; have zf := HZ.out.fr; have zl := HZ.out.lt) | (have HZ' := ZB.madeD Hb.out.size hb7; have HZ : Hid _ := HZ'; clear HZ'; have zc := HZ.out.ce; have zf := HZ.out.fr; have zl := HZ.out.lt) | skip); replace Hb : Hid (Below (gl w a n cap t x).heap.size (gl w a n cap t x) w7) := (by first | exact below_ix Hb.out hb7 | exact below_ix Hb.out.drew hb7 | exact below_ix (below_a Hb.out _) hb7 | exact below_ix (below_a Hb.out _).drew hb7 | exact below_ix (below_a Hb.out.drew _) hb7); clear hb7))
      all_goals go_wp2_with fail
      all_goals go_meet
      all_goals first | (with_reducible exact ⟨_, v, rfl, Has.new _ _ _, HV.out, below_a Hb.out _⟩) | (with_reducible exact ⟨_, v, rfl, ZB.set5 HZ.out rfl _ _ _ _ _, HV.out, set5 Hb.out HZ.out.lo _ _ _ _ _⟩)
  case rest =>
    as_aux_lemma =>
      obtain ⟨B6, v, rfl, h6, hv6, hB6⟩ := hcut
      have H6 : Hid (Has wc B6 (vC v)) := h6
      have HV6 : Hid (GetSays n t q x v) := hv6
      replace Hb : Hid (Below (gl w a n cap t x).heap.size (gl w a n cap t x) wc) := hB6
      clear h6 hv6 hB6
      obtain ⟨x0, x1, y0, y1, y2, y3, y4⟩ := gl_cells Hb.out
      go_wp2_with fail
      clear x0 x1 y0 y1 y2 y3 y4
      refine (toTable_calls a n cap t q _ hn (HT0.out.below Hb.out)).mono ?_
      rintro e w8 ⟨⟨Bc, rfl, _, hR⟩, hb8⟩
      have HTc : Hid (Tab (w8.alloc (.cells #[.slice (some ⟨Bc, 0, none⟩) n n, .int .i64 t] 40)) (some ⟨Bc, 0, none⟩) n q) := (row_tab hR).alloc _
      replace H6 : Hid (Has (w8.alloc (.cells #[.slice (some ⟨Bc, 0, none⟩) n n, .int .i64 t] 40)) B6 (vC v)) := (H6.out.call hb8).alloc _
      replace Hb : Hid (Below (gl w a n cap t x).heap.size (gl w a n cap t x) (w8.alloc (.cells #[.slice (some ⟨Bc, 0, none⟩) n n, .int .i64 t] 40))) := below_a (below_ix Hb.out hb8) _
      have HXb : Hid (TBox (w8.alloc (.cells #[.slice (some ⟨Bc, 0, none⟩) n n, .int .i64 t] 40)) w8.heap.size (some ⟨Bc, 0, none⟩) n n t) := TBox.new w8 _ n n t _
      clear hR hb8
      go_upto_region 10 with fail
      obtain ⟨W1, hW1⟩ : ∃ W1, (w8.alloc (.cells #[.slice (some ⟨Bc, 0, none⟩) n n, .int .i64 t] 40)) = W1 := ⟨_, rfl⟩
      rw [hW1] at HTc H6 Hb HXb ⊢
      clear hW1
      have Hc : Hid (Below W1.heap.size W1 W1) := Below.refl _ _
      go_cut [8] (fun s8 wc => ∃ B9 v', s8 = .pointer (some ⟨B9, 0, none⟩) ∧ Has wc B9 (vC v') ∧ GetSays n t q x v' ∧ Below W1.heap.size W1 wc)
      case first =>
        as_aux_lemma =>
          go_region_held3 (fun w' => w'.cell? ⟨w8.heap.size, 0, none⟩ = some (.slice (some ⟨Bc, 0, none⟩) n n) ∧ w'.cell? ⟨w8.heap.size, 1, none⟩ = some (.int .i64 t) ∧ w'.cell? ⟨w.heap.size + 1, 0, none⟩ = some (.int .i64 x.k) ∧ w'.cell? ⟨w.heap.size + 1, 1, none⟩ = some (.int .i64 x.n) ∧ w'.cell? ⟨w.heap.size + 1, 2, none⟩ = some (.float .f64 x.f) ∧ w'.cell? ⟨w.heap.size + 1, 3, none⟩ = some (.string x.s) ∧ w'.cell? ⟨w.heap.size + 1, 4, none⟩ = some (.int .i64 x.r)) (first | (with_reducible exact ⟨(HXb.out.call Hc.out).c0, (HXb.out.call Hc.out).c1, (gl_cells (below_ix Hb.out Hc.out)).2.2⟩) | (with_reducible exact ⟨(HXb.out.call Hc.out.drew).c0, (HXb.out.call Hc.out.drew).c1, (gl_cells (below_ix Hb.out Hc.out.drew)).2.2⟩) | (with_reducible exact ⟨(HXb.out.call (below_a Hc.out _)).c0, (HXb.out.call (below_a Hc.out _)).c1, (gl_cells (below_ix Hb.out (below_a Hc.out _))).2.2⟩) | (with_reducible exact ⟨(HXb.out.call (below_a Hc.out _).drew).c0, (HXb.out.call (below_a Hc.out _).drew).c1, (gl_cells (below_ix Hb.out (below_a Hc.out _).drew)).2.2⟩) | (with_reducible exact ⟨(HXb.out.call (below_a Hc.out.drew _)).c0, (HXb.out.call (below_a Hc.out.drew _)).c1, (gl_cells (below_ix Hb.out (below_a Hc.out.drew _))).2.2⟩) | (with_reducible exact ⟨(HXb.out.call (set5 Hc.out HZ.out.lo _ _ _ _ _)).c0, (HXb.out.call (set5 Hc.out HZ.out.lo _ _ _ _ _)).c1, (gl_cells (below_ix Hb.out (set5 Hc.out HZ.out.lo _ _ _ _ _))).2.2⟩)) (first | (go_at_call 12; refine (to_calls _ _ _ _ _ _).mono ?_; rintro e w9 ⟨rfl, hb9⟩; (first | (have HZ' := HZ.out.call hb9; clear HZ zc zf zl; have HZ : Hid _ := HZ'; clear HZ'; have zc := HZ.out.ce; have zf := HZ.out.fr; have zl := HZ.out.lt) | (have HZ' := ZB.made Hc.out.size hb9; have HZ : Hid _ := HZ'; clear HZ'; have zc := HZ.out.ce; have zf := HZ.out.fr; have zl := HZ.out.lt) | (have HZ' := ZB.madeD Hc.out.size hb9; have HZ : Hid _ := HZ'; clear HZ'; have zc := HZ.out.ce; have zf := HZ.out.fr; have zl := HZ.out.lt) | skip); replace Hc : Hid (Below W1.heap.size W1 w9) := (by first | exact below_ix Hc.out hb9 | exact below_ix Hc.out.drew hb9 | exact below_ix (below_a Hc.out _) hb9 | exact below_ix (below_a Hc.out _).drew hb9 | exact below_ix (below_a Hc.out.drew _) hb9); clear hb9) | (go_at_call 21; refine (implGet_calls _ n n t q x _ hn hQ.out Hf.out.1 (by first | exact HTc.out.below Hc.out | exact HTc.out.below Hc.out.drew | exact HTc.out.below (below_a Hc.out _) | exact HTc.out.below (below_a Hc.out _).drew | exact HTc.out.below (below_a Hc.out.drew _))).mono ?_; rintro e w10 ⟨⟨v', rfl, hv⟩, hb10⟩; have HV : Hid (GetSays n t q x v') := hv; clear hv; (first | (have HZ' := HZ.out.call hb10; clear HZ zc zf zl; have HZ : Hid _ := HZ'; clear HZ'; have zc := HZ.out.ce; have zf := HZ.out.fr; have zl := HZ.out.lt) | (have HZ' := ZB.made Hc.out.size hb10; have HZ : Hid _ := HZ'; clear HZ'; have zc := HZ.out.ce; have zf := HZ.out.fr; have zl := HZ.out.lt) | (have HZ' := ZB.madeD Hc.out.size hb10; have HZ : Hid _ := HZ'; clear HZ'; have zc := HZ.out.ce; have zf := HZ.out.fr; have zl := HZ.out.lt) | skip); replace Hc : Hid (Below W1.heap.size W1 w10) := (by first | exact below_ix Hc.out hb10 | exact below_ix Hc.out.drew hb10 | exact below_ix (below_a Hc.out _) hb10 | exact below_ix (below_a Hc.out _).drew hb10 | exact below_ix (below_a Hc.out.drew _) hb10); clear hb10))
          all_goals go_wp2_with fail
          all_goals go_meet
          all_goals first | (with_reducible exact ⟨_, v', rfl, Has.new _ _ _, HV.out, below_a Hc.out _⟩) | (with_reducible exact ⟨_, v', rfl, ZB.set5 HZ.out rfl _ _ _ _ _, HV.out, set5 Hc.out HZ.out.lo _ _ _ _ _⟩)
      case rest =>
        as_aux_lemma =>
          obtain ⟨B9, v', rfl, h9, hv9, hB9⟩ := hcut
          have heq : v' = v := hv9.one HV6.out
          subst heq
          have hvf : Hid (oneF v'.f v'.f) := .inl ⟨rfl, hv9.f hQ.out⟩
          replace H6 : Hid (Has _ B6 (vC v')) := H6.out.call hB9
          replace HTc : Hid (Tab _ (some ⟨Bc, 0, none⟩) n q) := HTc.out.below hB9
          replace HXb : Hid (TBox _ w8.heap.size (some ⟨Bc, 0, none⟩) n n t) := HXb.out.call hB9
          replace Hb : Hid (Below (gl w a n cap t x).heap.size (gl w a n cap t x) _) := below_ix Hb.out hB9
          clear hv9 hB9 HV6
          have q6 := H6.out.at
          have q9 := h9.at
          go_wp2_with fail
          clear q6 q9 H6 h9
          refine (eqValue_calls _ _ _ _ _ _ hvf.out _).mono ?_
          rintro e wE ⟨rfl, hbE⟩
          replace HTc : Hid (Tab wE (some ⟨Bc, 0, none⟩) n q) := HTc.out.below hbE
          replace HXb : Hid (TBox wE w8.heap.size (some ⟨Bc, 0, none⟩) n n t) := HXb.out.call hbE
          replace Hb : Hid (Below (gl w a n cap t x).heap.size (gl w a n cap t x) wE) := below_ix Hb.out hbE
          clear hbE hvf
          obtain ⟨x0, x1, y0, y1, y2, y3, y4⟩ := gl_cells Hb.out
          clear y0 y1 y2 y3 y4
          have e0 := HXb.out.c0
          have e1 := HXb.out.c1
          have HT1 : Hid (Tab wE a n q) := HT0.out.below Hb.out
          have HB : Hid (Below w.heap.size w wE) := below_call (below_alloc2 _ _ _) Hb.out
          go_wp2_with fail
          go_region_with (first | (go_at_call 17; refine (toTable_calls a n cap t q _ hn (by first | exact HT1.out | exact HT1.out.drew)).mono ?_; rintro e wF ⟨⟨B6, rfl, _, hR6⟩, hb6⟩; have hT6 : Hid (Tab wF (some ⟨B6, 0, none⟩) n q) := row_tab hR6; replace HTc : Hid (Tab wF (some ⟨Bc, 0, none⟩) n q) := (by first | exact HTc.out.below hb6 | exact HTc.out.drew.below hb6); replace HXb : Hid (TBox wF w8.heap.size (some ⟨Bc, 0, none⟩) n n t) := (by first | exact HXb.out.call hb6 | exact HXb.out.drew.call hb6); replace HB : Hid (Below w.heap.size w wF) := (by first | exact below_call HB.out hb6 | exact below_call HB.out.drew hb6); clear hb6 hR6 x0 x1 e0 e1; have e0 := HXb.out.c0; have e1 := HXb.out.c1) | (go_at_call 19; refine (eqTable_calls _ _ n n n t q _ hn hQ.out (by first | exact HTc.out | exact HTc.out.drew) (by first | exact hT6.out | exact hT6.out.drew)).mono ?_; rintro e wG ⟨rfl, hb7⟩; replace HB : Hid (Below w.heap.size w wG) := (by first | exact below_call HB.out hb7 | exact below_call HB.out.drew hb7); clear hb7))
          all_goals go_wp2_with fail
          all_goals go_ret
          all_goals exact ⟨rfl, HB.out⟩
end Go.Proofs.Ytiidepafifodjab
