import Derived.Test.YtdialodjllpgaaaGreatDoorCnZ
import Derived.Test.YtdialodjllpgaaaGreatDoorWtA
import Derived.Test.YtdialodjllpgaaaGreatDoorCnV
import Derived.Conc.EventLaws
/-! The program's run: Run. -/
namespace Go.Proofs.YtdialodjllpgaaaGreatDoor
open Go.RowKit
attribute [local go_sem] run_store_float
attribute [local go_sem ↓] Go.wp_at_zero Go.wp_at_succ

theorem close_gx (w : World) (E : Nat) (he : w.heap[E]? = some (.chan 0 #[] false 0 0 false)) : ∃ w', (Builtin.close_ #[68] 0 #[.chan (some E)]).run Tryz.prog w = .ok (.tuple #[]) w' ∧ Gx (fun k => k = E) w w' := by
  refine ⟨_, run_close_open _ _ he, rfl, rfl, rfl, by simp, fun k _ hn => ?_⟩
  show (w.heap.setIfInBounds E _)[k]? = w.heap[k]?
  rw [Array.getElem?_setIfInBounds_ne (fun e => hn e.symm)]
theorem cell_gx {S : Nat → Prop} {w w' : World} (g : Gx S w w') {k o : Nat} (hk : k < w.heap.size) (hS : ¬ S k) {v : Value} (h : w.cell? ⟨k, o, none⟩ = some v) : w'.cell? ⟨k, o, none⟩ = some v := (World.cell?_of_block (a := ⟨k, o, none⟩) (g.block k hk hS)).trans h
theorem cell_ne {w : World} {k o E : Nat} {v : Value} (h : w.cell? ⟨k, o, none⟩ = some v) (he : w.heap[E]? = some (.chan 0 #[] false 0 0 false)) : k ≠ E := fun c => by
  subst c
  simp [World.cell?, he] at h
abbrev rbZ : Array Value := #[.int .i64 0, .slice none 0 0, .slice none 0 0, .string ⟨#[]⟩, .string ⟨#[]⟩, .int .i64 0, .int .i64 0]
theorem rb_other {w : World} {B N : Nat} {ra : Option Addr} {q : Nat → RcD} (q4 : OwnB w B rbZ) (q5 : RcsAt 0 w ra N q) : ∀ b, ra = some b → 0 < N → b.block ≠ B := fun b e h0 c => by
  obtain ⟨b', off, e', _, h2, h3⟩ := q5 h0
  rw [e] at e'
  cases e'
  replace c : b' = B := c
  subst c
  have h4 := h3 0 h0 4 (by omega)
  have h5 := h3 0 h0 0 (by omega)
  have h6 := q4.1.2 (off + 0 * 5 + 4)
  have h7 := q4.1.2 (off + 0 * 5 + 0)
  rw [h6] at h4
  rw [h7] at h5
  rcases (show off = 0 ∨ off = 1 ∨ off = 2 ∨ 2 < off by omega) with rfl | rfl | rfl | ho
  · simp [rcC] at h5 h4
    have h8 := h3 0 h0 1 (by omega)
    rw [q4.1.2 (0 + 0 * 5 + 1)] at h8
    simp [rcC] at h8
  · simp [rcC] at h5
  · simp [rcC] at h5
  · rw [Array.getElem?_eq_none (by show 7 ≤ off + 0 * 5 + 4; omega)] at h4
    simp [rcC] at h4
theorem rb_gx (w : World) (B : Nat) (a0 a1 a2 a3 a4 a5 a6 : Value) : Gx (fun k => k = B) w (((((((w.setCell ⟨B, 0, none⟩ a0).setCell ⟨B, 1, none⟩ a1).setCell ⟨B, 2, none⟩ a2).setCell ⟨B, 3, none⟩ a3).setCell ⟨B, 4, none⟩ a4).setCell ⟨B, 5, none⟩ a5).setCell ⟨B, 6, none⟩ a6) := by
  have hs : ∀ {u : World} (j : Nat) (v : Value), Gx (fun k => k = B) w u → Gx (fun k => k = B) w (u.setCell ⟨B, j, none⟩ v) := fun j v h => h.trans (Gx.set _ B j v) (fun _ _ e => e)
  exact hs 6 _ (hs 5 _ (hs 4 _ (hs 3 _ (hs 2 _ (hs 1 _ (Gx.set w B 0 _))))))
theorem ft_zero {u : UD} (h : ∀ y, ¬ BadU u y) {x : FT} (hx : Least (BadU u) x) : x = ft0 := by
  rcases hx with ⟨e, _⟩ | ⟨_, hp, _⟩
  · exact e
  · exact absurd hp (h x)
abbrev inD0 : ID := ⟨0, fun _ => ⟨#[]⟩, 0, fun _ => ⟨#[]⟩, 1000, 2, 0⟩
/-- what a run stands on -/
structure RunPre (u : UD) (ub uo : Nat) (fas : Nat → FA) (d : FD) (x : FA) (m t s n i j : Nat) (w : World) : Prop where
  sm : u.sm
  cap : ∀ i, i < u.n → CapF (u.fn i) (fas i)
  ft : FnsAt 0 w u.n u.fn (some ⟨ub, uo, none⟩) fas
  n1 : u.n = 1
  nb : ∀ y, ¬ BadU u y
  ux : U1x w d x ub uo
  p : TxN d x w 9 m t s n i j
theorem RunPre.call {u : UD} {ub uo : Nat} {fas : Nat → FA} {d : FD} {x : FA} {m t s n i j : Nat} {w w' : World} (h : RunPre u ub uo fas d x m t s n i j w) (hb : Below w.heap.size w w') : RunPre u ub uo fas d x m t s n i j w' := ⟨h.sm, h.cap, h.ft.below hb, h.n1, h.nb, h.ux.call hb, h.p.call hb⟩
set_option maxRecDepth 100000 in
set_option maxHeartbeats 16000000 in
theorem runWatched_calls (u : UD) (ub uo uc : Nat) (fas : Nat → FA) (d : FD) (x : FA) (m t s n i j : Nat) (c : Int) (er : ByteArray) (N : Nat) (q : Nat → RcD) (w : World) (h : RunPre u ub uo fas d x m t s n i j w)
    (hR : ∀ v v' X E bb P L Z u0, Below w.heap.size w v → NM v (.slice (some ⟨ub, uo, none⟩) 1 uc) d x (nodeC (d.nd s) (x.nas s)) (nodeC (d.nd m) (x.nas m)) X E bb P L Z u0 v' → Calls Tryz.prog 23 #[ptr X.M] v' fun e v'' => e = .returned (.tuple #[]) ∧ Below v.heap.size v v'' ∧ ∃ tr ti md ra rc va vn vc, RepAt X.M E c er tr ti md ra N rc q va vn vc v'') :
    Calls Tryz.prog 10 #[.agg #[.slice (some ⟨ub, uo, none⟩) 1 uc], .agg #[.slice none 0 0, .slice none 0 0, .int .i64 1000, .int .i64 2, .int .i64 0], wchV] w fun e w' => RpP c er N q w e w' := by
  have HH : Hid (RunPre u ub uo fas d x m t s n i j w) := h
  have HR : Hid _ := hR
  clear h hR
  go_enter Tryz.func10, Tryz.ntmps10
  go_wp2_with fail
  obtain ⟨w0, hw0⟩ : ∃ w0, ((w.alloc (.cells #[.slice (some ⟨ub, uo, none⟩) 1 uc] 31)).alloc (.cells #[.slice none 0 0, .slice none 0 0, .int .i64 1000, .int .i64 2, .int .i64 0] 34)).alloc (.cells rbZ 27) = w0 := ⟨_, rfl⟩
  have H0 : Hid (Below w.heap.size w w0 ∧ Has w0 w.heap.size #[.slice (some ⟨ub, uo, none⟩) 1 uc] ∧ Has w0 (w.heap.size + 1) #[.slice none 0 0, .slice none 0 0, .int .i64 1000, .int .i64 2, .int .i64 0] ∧ OwnB w0 (w.heap.size + 1 + 1) rbZ) := by
    rw [← hw0]
    refine ⟨below_alloc3 _ _ _ _, ((Has.new _ _ _).alloc _).alloc _, (has_new1 _ _ _ _).alloc _, ?_⟩
    have h9 := own_new1 (w.alloc (.cells #[.slice (some ⟨ub, uo, none⟩) 1 uc] 31)) (.cells #[.slice none 0 0, .slice none 0 0, .int .i64 1000, .int .i64 2, .int .i64 0] 34) rbZ 27
    rw [World.size_alloc] at h9
    exact h9
  rw [hw0]
  clear hw0
  have hC := fun v (hv : Below w.heap.size w v) => implCheck_calls 0 u (some ⟨ub, uo, none⟩) uc fas v HH.out.sm HH.out.cap (HH.out.call hv).ft
  simp only [unV, HH.out.n1] at hC
  refine (hC w0 H0.out.1).mono ?_
  clear hC
  rintro e w1 ⟨y, rfl, hy, hb1⟩
  obtain rfl := ft_zero HH.out.nb hy
  have H1 : Hid (Below w0.heap.size w0 w1) := hb1
  have u0 := (H0.out.2.1.call hb1).cell 0 rfl
  have i0 := (H0.out.2.2.1.call hb1).cell 0 rfl
  have i1 := (H0.out.2.2.1.call hb1).cell 1 rfl
  have i2 := (H0.out.2.2.1.call hb1).cell 2 rfl
  have i3 := (H0.out.2.2.1.call hb1).cell 3 rfl
  have i4 := (H0.out.2.2.1.call hb1).cell 4 rfl
  clear hy hb1
  go_wp2_with fail
  have hI := fun v (hv : Below w.heap.size w v) => implInputOk_calls 0 inD0 ⟨none, 0, none, 0⟩ v ⟨by decide, fun i hi => absurd hi (Nat.not_lt_zero _), by decide, fun i hi => absurd hi (Nat.not_lt_zero _)⟩ ⟨fun h => absurd h (Nat.not_lt_zero _), fun h => absurd h (Nat.not_lt_zero _)⟩
  refine (hI w1 (below_call H0.out.1 H1.out)).mono ?_
  clear hI
  rintro e w2 ⟨⟨b, rfl, hb⟩, hb2⟩
  obtain rfl : b = true := hb.2 ⟨⟨by decide, fun i hi => absurd hi (Nat.not_lt_zero _)⟩, ⟨by decide, fun i hi => absurd hi (Nat.not_lt_zero _)⟩, by unfold numOk; decide⟩
  have H2 : Hid (Below w0.heap.size w0 w2) := below_call H1.out hb2
  clear hb hb2 u0 i0 i1 i2 i3 i4
  have u0 := (H0.out.2.1.call H2.out).cell 0 rfl
  have i0 := (H0.out.2.2.1.call H2.out).cell 0 rfl
  have i1 := (H0.out.2.2.1.call H2.out).cell 1 rfl
  have i2 := (H0.out.2.2.1.call H2.out).cell 2 rfl
  have i3 := (H0.out.2.2.1.call H2.out).cell 3 rfl
  have i4 := (H0.out.2.2.1.call H2.out).cell 4 rfl
  go_wp2_with fail
  have HP2 : Hid (RunPre u ub uo fas d x m t s n i j w2 ∧ Below w.heap.size w w2) := ⟨HH.out.call (below_call H0.out.1 H2.out), below_call H0.out.1 H2.out⟩
  refine (newMachine_calls ub uo uc d x m t s n i j w2 HP2.out.1.ux HP2.out.1.p).mono ?_
  rintro e w3 ⟨X, E, bb, P, L, Z, v0, rfl, hNM⟩
  have HN : Hid _ := hNM
  clear hNM u0 i0 i1 i2 i3 i4
  go_wp2_with fail
  refine (HR.out w2 w3 X E bb P L Z v0 HP2.out.2 HN.out).mono ?_
  rintro e w4 ⟨rfl, hb4, tr, ti, md, ra, rc, va, vn, vc, hrep⟩
  obtain ⟨w5, hcl, hg5⟩ := close_gx w4 E hrep.e
  have hME := cell_ne hrep.c8 hrep.e
  have H5 : Hid (Below w2.heap.size w2 w4 ∧ Gx (fun k => k = E) w4 w5 ∧ w2.heap.size ≤ E ∧ OwnB w5 (w.heap.size + 1 + 1) rbZ ∧ RcsAt 0 w5 ra N q) := by
    have hE := HN.out.b.ew
    have hO := (H0.out.2.2.2.call H2.out)
    exact ⟨hb4, hg5, hE, hg5.ownB (hO.call hb4) (fun e => by have := hO.1.1; omega), hrep.r.gx hg5 (fun b e h0 c => hrep.r.other hrep.e b e h0 c)⟩
  have c24 := hrep.c24
  have hl := hrep.lt
  have c8 := cell_gx hg5 hl hME hrep.c8
  have c9 := cell_gx hg5 hl hME hrep.c9
  have c10 := cell_gx hg5 hl hME hrep.c10
  have c11 := cell_gx hg5 hl hME hrep.c11
  have c12 := cell_gx hg5 hl hME hrep.c12
  have c13 := cell_gx hg5 hl hME hrep.c13
  have c14 := cell_gx hg5 hl hME hrep.c14
  have c25 := cell_gx hg5 hl hME hrep.c25
  have r0 := H5.out.2.2.2.1.1.cell 0 rfl
  have r1 := H5.out.2.2.2.1.1.cell 1 rfl
  have r2 := H5.out.2.2.2.1.1.cell 2 rfl
  have r3 := H5.out.2.2.2.1.1.cell 3 rfl
  have r4 := H5.out.2.2.2.1.1.cell 4 rfl
  have r5 := H5.out.2.2.2.1.1.cell 5 rfl
  have r6 := H5.out.2.2.2.1.1.cell 6 rfl
  have rz := H5.out.2.2.2.1.2
  clear hb4 hg5 hrep hME
  go_wp2_with fail
  refine (wait_calls X.M w5 c25).mono ?_
  rintro e w6 ⟨rfl, rfl⟩
  clear hcl c24
  go_wp2_with fail
  obtain ⟨q1, q2, q3, q4, q5⟩ := H5.out
  have q6 := H0.out.1.size
  have q7 := H2.out.size
  have q8 := q4.1.1
  have hb6 : Below w.heap.size w w6 := HP2.out.2.trans ((q1.trans (q2.to (N := w2.heap.size) q1.size (fun k e => by omega))).mono (by have := HP2.out.2.size; omega))
  have hrow : ∀ b, ra = some b → 0 < N → b.block ≠ w.heap.size + 1 + 1 := rb_other q4 q5
  refine bodyPost_ret (v := .agg #[.int .i64 c, .slice ra N rc, .slice va vn vc, .string er, .string tr, .int .i64 ti, .int .i64 md]) (by simp [results, Tryz.results10, go_sem, r0, r1, r2, r3, r4, r5, r6]) rfl ⟨tr, ti, md, ra, rc, va, vn, vc, rfl, ?_, ?_⟩
  · exact q5.gx (rb_gx w6 _ _ _ _ _ _ _ _) hrow
  · exact bl_set (bl_set (bl_set (bl_set (bl_set (bl_set (bl_set hb6 _ (by omega)) _ (by omega)) _ (by omega)) _ (by omega)) _ (by omega)) _ (by omega)) _ (by omega)
set_option maxRecDepth 100000 in
set_option maxHeartbeats 8000000 in
theorem run_calls (u : UD) (ub uo uc : Nat) (fas : Nat → FA) (d : FD) (x : FA) (m t s n i j : Nat) (c : Int) (er : ByteArray) (N : Nat) (q : Nat → RcD) (w : World) (h : RunPre u ub uo fas d x m t s n i j w)
    (hR : ∀ v v' X E bb P L Z u0, Below w.heap.size w v → NM v (.slice (some ⟨ub, uo, none⟩) 1 uc) d x (nodeC (d.nd s) (x.nas s)) (nodeC (d.nd m) (x.nas m)) X E bb P L Z u0 v' → Calls Tryz.prog 23 #[ptr X.M] v' fun e v'' => e = .returned (.tuple #[]) ∧ Below v.heap.size v v'' ∧ ∃ tr ti md ra rc va vn vc, RepAt X.M E c er tr ti md ra N rc q va vn vc v'') :
    Calls Tryz.prog 5 #[.agg #[.slice (some ⟨ub, uo, none⟩) 1 uc], .agg #[.slice none 0 0, .slice none 0 0, .int .i64 1000, .int .i64 2, .int .i64 0]] w fun e w' => RpP c er N q w e w' := by
  have HH : Hid (RunPre u ub uo fas d x m t s n i j w) := h
  have HR : Hid _ := hR
  clear h hR
  go_enter Tryz.func5, Tryz.ntmps5
  go_wp2_with fail
  refine (runWatched_calls u ub uo uc fas d x m t s n i j c er N q _ (HH.out.call (below_alloc3 _ _ _ _)) (fun v v' X E bb P L Z u0 hb hN => HR.out v v' X E bb P L Z u0 (below_call (below_alloc3 _ _ _ _) hb) hN)).mono ?_
  rintro e w1 ⟨tr, ti, md, ra, rc, va, vn, vc, rfl, hr, hb⟩
  have hO : OwnB w1 (w.heap.size + 1 + 1) rbZ := by
    have h9 := own_new1 (w.alloc (.cells #[.slice (some ⟨ub, uo, none⟩) 1 uc] 31)) (.cells #[.slice none 0 0, .slice none 0 0, .int .i64 1000, .int .i64 2, .int .i64 0] 34) rbZ 27
    rw [World.size_alloc] at h9
    exact h9.call hb
  have H1 : Hid (RcsAt 0 w1 ra N q ∧ Below w.heap.size w w1 ∧ OwnB w1 (w.heap.size + 1 + 1) rbZ) := ⟨hr, below_call (below_alloc3 _ _ _ _) hb, hO⟩
  have r0 := hO.1.cell 0 rfl
  have r1 := hO.1.cell 1 rfl
  have r2 := hO.1.cell 2 rfl
  have r3 := hO.1.cell 3 rfl
  have r4 := hO.1.cell 4 rfl
  have r5 := hO.1.cell 5 rfl
  have r6 := hO.1.cell 6 rfl
  have rz := hO.2
  clear hr hb hO
  go_wp2_with fail
  obtain ⟨q5, hb6, q4⟩ := H1.out
  have hrow : ∀ b, ra = some b → 0 < N → b.block ≠ w.heap.size + 1 + 1 := rb_other q4 q5
  refine bodyPost_ret (v := .agg #[.int .i64 c, .slice ra N rc, .slice va vn vc, .string er, .string tr, .int .i64 ti, .int .i64 md]) (by simp [results, Tryz.results5, go_sem, r0, r1, r2, r3, r4, r5, r6]) rfl ⟨tr, ti, md, ra, rc, va, vn, vc, rfl, ?_, ?_⟩
  · exact q5.gx (rb_gx w1 _ _ _ _ _ _ _ _) hrow
  · exact bl_set (bl_set (bl_set (bl_set (bl_set (bl_set (bl_set hb6 _ (by omega)) _ (by omega)) _ (by omega)) _ (by omega)) _ (by omega)) _ (by omega)) _ (by omega)
end Go.Proofs.YtdialodjllpgaaaGreatDoor
