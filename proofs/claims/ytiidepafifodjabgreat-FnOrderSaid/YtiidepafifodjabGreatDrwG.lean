import Derived.Test.YtiidepafifodjabGreatDrwF
/-! The draws: two values. -/
namespace Go.Proofs.YtiidepafifodjabGreat
open Go.RowKit
attribute [local go_sem] run_store_float
attribute [local go_sem ↓] Go.wp_at_zero Go.wp_at_succ

theorem fz_new (u : World) (A : Array Value) (t : TypeId) : ∀ o, (u.alloc (.cells A t)).frozen? ⟨u.heap.size, o, none⟩ = false := fun o => by simp
theorem LB.far5 {P : Nat} {y : VD} {u : World} (h : LB P y u) {R : Nat} (hne : P ≠ R) (v0 v1 v2 v3 v4 : Value) : LB P y (((((u.setCell ⟨R, 0, none⟩ v0).setCell ⟨R, 1, none⟩ v1).setCell ⟨R, 2, none⟩ v2).setCell ⟨R, 3, none⟩ v3).setCell ⟨R, 4, none⟩ v4) := ((((h.set1 hne _ _).set1 hne _ _).set1 hne _ _).set1 hne _ _).set1 hne _ _
structure T4 (w : World) (x y : VD) (S5 S6 : Nat) (u : World) : Prop where
  r2 : LB w.heap.size vz u
  r3 : LB (w.heap.size + 1) vz u
  v5 : LB S5 x u
  v6 : LB S6 y u
  b : Below w.heap.size w u
  h5 : w.heap.size + 1 < S5
  h6 : w.heap.size + 1 < S6
theorem T4.n5 {w : World} {x y : VD} {S5 S6 : Nat} {u : World} (h : T4 w x y S5 S6 u) : S5 ≠ w.heap.size := by have := h.h5; omega
theorem T4.n6 {w : World} {x y : VD} {S5 S6 : Nat} {u : World} (h : T4 w x y S5 S6 u) : S6 ≠ w.heap.size := by have := h.h6; omega
theorem T4.m5 {w : World} {x y : VD} {S5 S6 : Nat} {u : World} (h : T4 w x y S5 S6 u) : S5 ≠ w.heap.size + 1 := by have := h.h5; omega
theorem T4.m6 {w : World} {x y : VD} {S5 S6 : Nat} {u : World} (h : T4 w x y S5 S6 u) : S6 ≠ w.heap.size + 1 := by have := h.h6; omega
theorem T4.drew {w : World} {x y : VD} {S5 S6 : Nat} {u : World} (h : T4 w x y S5 S6 u) : T4 w x y S5 S6 u.drew := ⟨h.r2.drew, h.r3.drew, h.v5.drew, h.v6.drew, h.b.drew, h.h5, h.h6⟩
theorem T4.c {w : World} {x y : VD} {S5 S6 : Nat} {u : World} (h : T4 w x y S5 S6 u) : (u.cell? ⟨S5, 0, none⟩ = some (.int .i64 x.k) ∧ u.cell? ⟨S5, 1, none⟩ = some (.int .i64 x.n) ∧ u.cell? ⟨S5, 2, none⟩ = some (.float .f64 x.f) ∧ u.cell? ⟨S5, 3, none⟩ = some (.string x.s) ∧ u.cell? ⟨S5, 4, none⟩ = some (.int .i64 x.r)) ∧ (u.cell? ⟨S6, 0, none⟩ = some (.int .i64 y.k) ∧ u.cell? ⟨S6, 1, none⟩ = some (.int .i64 y.n) ∧ u.cell? ⟨S6, 2, none⟩ = some (.float .f64 y.f) ∧ u.cell? ⟨S6, 3, none⟩ = some (.string y.s) ∧ u.cell? ⟨S6, 4, none⟩ = some (.int .i64 y.r)) := ⟨h.v5.c, h.v6.c⟩
set_option maxRecDepth 100000 in
set_option maxHeartbeats 8000000 in
theorem two_calls (a : Option Addr) (len cap : Nat) (zs : List Int) (w : World) (hr : IsRow w a len cap zs) :
    Calls Tryz.prog 49 #[.slice a len cap] w fun e w' => (∃ x y : VD, e = .returned (.tuple #[x.v, y.v]) ∧ VW x ∧ VW y) ∧ Below w.heap.size w w' := by
  have HC : Hid (CU (w.heap.size + 1 + 1) a len cap 0 (((w.alloc (.cells (vC5 vz) 44)).alloc (.cells (vC5 vz) 44)).alloc (.cells #[.slice a len cap, .int .i64 0, .int .u64 0] 135))) := by
    have hn := Has.new ((w.alloc (.cells (vC5 vz) 44)).alloc (.cells (vC5 vz) 44)) #[.slice a len cap, .int .i64 0, .int .u64 0] 135
    simp only [World.size_alloc] at hn
    have hf := fz_new ((w.alloc (.cells (vC5 vz) 44)).alloc (.cells (vC5 vz) 44)) #[.slice a len cap, .int .i64 0, .int .u64 0] 135
    simp only [World.size_alloc] at hf
    refine ⟨0, 0, Nat.le_refl _, hn.lt, ⟨hn.at 0, hn.at 1, hn.at 2⟩, hf, fun i hi => ?_⟩
    rcases hr with ⟨_, h0, _⟩ | ⟨p, rfl, h1, h2, h3, h4, h5⟩
    · omega
    · have hc := h4 i (by omega)
      obtain ⟨b, off, spot⟩ := p
      have hspot : spot = none := by simpa [Addr.add] using World.cell?_spot (h4 0 (by omega))
      subst hspot
      have hadd : (⟨b, off, none⟩ : Addr).add i = ⟨b, off + i, none⟩ := by cases i <;> simp [Addr.add]
      rw [hadd] at hc
      have hw := u8_of_wf (h5 (zs.getD i 0) (by rw [List.getD_eq_getElem?_getD, List.getElem?_eq_getElem (by omega)]; exact List.getElem_mem (by omega)))
      have hb : b < w.heap.size := by
        refine Nat.lt_of_not_le fun hle => ?_
        have : w.heap[b]? = none := Array.getElem?_eq_none hle
        simp [World.cell?, this] at hc
      refine ⟨b, off, zs.getD i 0, rfl, by omega, ?_, by omega, by omega⟩
      have hB := below_call (below_call (below_alloc w (.cells (vC5 vz) 44)) (below_alloc _ (.cells (vC5 vz) 44))) (below_alloc _ (.cells #[.slice (some ⟨b, off, none⟩) len cap, .int .i64 0, .int .u64 0] 135))
      exact (hB.cell (p := ⟨b, off + i, none⟩) hb).trans hc
  have H2 : Hid (LB w.heap.size vz (((w.alloc (.cells (vC5 vz) 44)).alloc (.cells (vC5 vz) 44)).alloc (.cells #[.slice a len cap, .int .i64 0, .int .u64 0] 135))) := ((LB.new w vz 44).call (below_alloc _ _)).call (below_alloc _ _)
  have H3 : Hid (LB (w.heap.size + 1) vz (((w.alloc (.cells (vC5 vz) 44)).alloc (.cells (vC5 vz) 44)).alloc (.cells #[.slice a len cap, .int .i64 0, .int .u64 0] 135))) := by
    have := LB.new (w.alloc (.cells (vC5 vz) 44)) vz 44
    rw [World.size_alloc] at this
    exact this.call (below_alloc _ _)
  have H0 : Hid (Below w.heap.size w (((w.alloc (.cells (vC5 vz) 44)).alloc (.cells (vC5 vz) 44)).alloc (.cells #[.slice a len cap, .int .i64 0, .int .u64 0] 135))) := below_call (below_call (below_alloc w _) (below_alloc _ _)) (below_alloc _ _)
  clear hr
  go_enter Tryz.func49, Tryz.ntmps49
  go_wp2_with fail
  refine (value_calls (w.heap.size + 1 + 1) a len cap 0 _ (by omega) HC.out).mono ?_
  rintro e w4 ⟨⟨x, rfl, hx⟩, hc, hg⟩
  have G2 : Hid (LB w.heap.size vz (w4.alloc (.cells (vC5 x) 44))) := (H2.out.step hg (by omega)).call (below_alloc _ _)
  have G3 : Hid (LB (w.heap.size + 1) vz (w4.alloc (.cells (vC5 x) 44))) := (H3.out.step hg (by omega)).call (below_alloc _ _)
  have G0 : Hid (Below w.heap.size w (w4.alloc (.cells (vC5 x) 44))) := below_call (H0.out.grown hg H0.out.size (fun k e => by cases e; omega)) (below_alloc _ _)
  have G5 : Hid (LB w4.heap.size x (w4.alloc (.cells (vC5 x) 44))) := LB.new w4 x _
  have GC : Hid (CU (w.heap.size + 1 + 1) a len cap 60 (w4.alloc (.cells (vC5 x) 44))) := CU.alloc hc _
  have hlt : w.heap.size + 1 + 1 < w4.heap.size := by obtain ⟨_, _, _, hh⟩ := hc; exact hh.lt
  clear H2 H3 H0 HC hc hg
  go_wp2_with fail
  refine (near_calls (w.heap.size + 1 + 1) a len cap 60 x _ (by omega) hx GC.out).mono ?_
  rintro e w5 ⟨⟨y, rfl, hy⟩, hc, hg⟩
  have hlt5 : w4.heap.size < w5.heap.size := Nat.lt_of_lt_of_le G5.out.h.lt hg.size
  have HT : Hid (T4 w x y w4.heap.size w5.heap.size (w5.alloc (.cells (vC5 y) 44))) := ⟨(G2.out.step hg (by omega)).call (below_alloc _ _), (G3.out.step hg (by omega)).call (below_alloc _ _), (G5.out.step hg (by omega)).call (below_alloc _ _), LB.new w5 y _, below_call (G0.out.grown hg G0.out.size (fun k e => by cases e; omega)) (below_alloc _ _), by omega, by omega⟩
  clear G2 G3 G0 G5 GC hc hg
  go_upto_region 4 with fail
  obtain ⟨U, hU⟩ : ∃ U, w5.alloc (.cells (vC5 y) 44) = U := ⟨_, rfl⟩
  rw [hU] at HT ⊢
  clear hU
  generalize w4.heap.size = S5 at *
  generalize w5.heap.size = S6 at *
  obtain ⟨a0, a1, a2, a3, a4⟩ := HT.out.r2.c
  have af := HT.out.r2.fr
  have al := HT.out.r2.h.lt
  obtain ⟨b0, b1, b2, b3, b4⟩ := HT.out.r3.c
  have bf := HT.out.r3.fr
  have bl := HT.out.r3.h.lt
  obtain ⟨⟨c0, c1, c2, c3, c4⟩, d0, d1, d2, d3, d4⟩ := HT.out.c
  have n5 := HT.out.n5
  have n6 := HT.out.n6
  have m5 := HT.out.m5
  have m6 := HT.out.m6
  go_region_with (fail)
  all_goals go_wp2_with fail
  all_goals refine bodyPost_ret (v := .tuple #[x.v, y.v]) (by simp [results, Tryz.results49, go_sem, a0, a1, a2, a3, a4, b0, b1, b2, b3, b4]) rfl ⟨⟨x, y, rfl, hx, hy⟩, ?_⟩
  all_goals exact (set5 (set5 HT.out.b (Nat.le_refl _) _ _ _ _ _) (Nat.le_succ _) _ _ _ _ _).drew

theorem isRow_below {w w' : World} {a : Option Addr} {len cap : Nat} {zs : List Int} (h : IsRow w a len cap zs) (hB : Below w.heap.size w w') : IsRow w' a len cap zs := by
  rcases h with h | ⟨x, rfl, h1, h2, h3, h4, h5⟩
  · exact .inl h
  · refine .inr ⟨x, rfl, h1, h2, h3, fun i hi => ?_, h5⟩
    have hc := h4 i hi
    have hb : (x.add i).block < w.heap.size := by
      refine Nat.lt_of_not_le fun hle => ?_
      have : w.heap[(x.add i).block]? = none := Array.getElem?_eq_none hle
      simp [World.cell?, this] at hc
    exact (hB.cell (p := x.add i) hb).trans hc
set_option maxRecDepth 100000 in
set_option maxHeartbeats 8000000 in
theorem drawSame_calls (a : Option Addr) (len cap : Nat) (zs : List Int) (w : World) (hr : IsRow w a len cap zs) :
    Calls Tryz.prog 19 #[.slice a len cap] w fun e w' => (∃ x y : VD, e = .returned (.tuple #[x.v, y.v]) ∧ VW x ∧ VW y) ∧ Below w.heap.size w w' := by
  have HB : Hid (Below w.heap.size w ((w.alloc (.cells (vC5 vz) 44)).alloc (.cells (vC5 vz) 44))) := below_call (below_alloc w _) (below_alloc _ _)
  have HR : Hid (IsRow ((w.alloc (.cells (vC5 vz) 44)).alloc (.cells (vC5 vz) 44)) a len cap zs) := isRow_below hr HB.out
  have H2 : Hid (LB w.heap.size vz ((w.alloc (.cells (vC5 vz) 44)).alloc (.cells (vC5 vz) 44))) := (LB.new w vz 44).call (below_alloc _ _)
  have H3 : Hid (LB (w.heap.size + 1) vz ((w.alloc (.cells (vC5 vz) 44)).alloc (.cells (vC5 vz) 44))) := by
    have := LB.new (w.alloc (.cells (vC5 vz) 44)) vz 44
    rw [World.size_alloc] at this
    exact this
  clear hr
  go_enter Tryz.func19, Tryz.ntmps19
  go_wp2_with fail
  refine (two_calls a len cap zs _ HR.out).mono ?_
  rintro e w1 ⟨⟨x, y, rfl, hx, hy⟩, hb⟩
  replace H2 : Hid (LB w.heap.size vz w1) := H2.out.call hb
  replace H3 : Hid (LB (w.heap.size + 1) vz w1) := H3.out.call hb
  replace HB : Hid (Below w.heap.size w w1) := below_call HB.out hb
  clear hb HR
  obtain ⟨a0, a1, a2, a3, a4⟩ := H2.out.c
  have af := H2.out.fr
  obtain ⟨b0, b1, b2, b3, b4⟩ := H3.out.c
  have bf := H3.out.fr
  go_wp2_with fail
  exact bodyPost_ret (v := .tuple #[x.v, y.v]) (by simp [results, Tryz.results19, go_sem, a0, a1, a2, a3, a4, b0, b1, b2, b3, b4]) rfl ⟨⟨x, y, rfl, hx, hy⟩, set5 (set5 HB.out (Nat.le_refl _) _ _ _ _ _) (Nat.le_succ _) _ _ _ _ _⟩
end Go.Proofs.YtiidepafifodjabGreat
