import Derived.Test.YtcpjnddkibbddaaGreatSkK
import Derived.Deep.RegionHeld
/-! The program's scopes: a new visitor. -/
namespace Go.Proofs.YtcpjnddkibbddaaGreat
open Go.RowKit
theorem run_store_fn (P : Program) (w : World) (a : Addr) (m : Mode) (fn : Fn) (first captured : Array Value) : (store a (.func fn first captured) m).run P w = stored P w a (.func fn first captured) m := run_store P w a _ m rfl
theorem own12 {w : World} {S : Nat} {A : Array Value} (h : OwnB w S A) (hA : A.size = 54) (v0 v1 v2 v3 v4 v5 v6 v7 v8 v9 v10 v11 : Value) : OwnB ((((((((((((w.setCell ⟨S, 10, none⟩ v0).setCell ⟨S, 11, none⟩ v1).setCell ⟨S, 15, none⟩ v2).setCell ⟨S, 16, none⟩ v3).setCell ⟨S, 17, none⟩ v4).setCell ⟨S, 21, none⟩ v5).setCell ⟨S, 18, none⟩ v6).setCell ⟨S, 19, none⟩ v7).setCell ⟨S, 35, none⟩ v8).setCell ⟨S, 36, none⟩ v9).setCell ⟨S, 45, none⟩ v10).setCell ⟨S, 46, none⟩ v11) S ((((((((((((A.setIfInBounds 10 v0).setIfInBounds 11 v1).setIfInBounds 15 v2).setIfInBounds 16 v3).setIfInBounds 17 v4).setIfInBounds 21 v5).setIfInBounds 18 v6).setIfInBounds 19 v7).setIfInBounds 35 v8).setIfInBounds 36 v9).setIfInBounds 45 v10).setIfInBounds 46 v11) := ((((((((((((h.set (o := 10) (by simp [hA]) v0).set (o := 11) (by simp [hA]) v1).set (o := 15) (by simp [hA]) v2).set (o := 16) (by simp [hA]) v3).set (o := 17) (by simp [hA]) v4).set (o := 21) (by simp [hA]) v5).set (o := 18) (by simp [hA]) v6).set (o := 19) (by simp [hA]) v7).set (o := 35) (by simp [hA]) v8).set (o := 36) (by simp [hA]) v9).set (o := 45) (by simp [hA]) v10).set (o := 46) (by simp [hA]) v11)
set_option maxRecDepth 100000 in
theorem scB_done (S T : Nat) (u : UD) (f : Nat) (ua : Option Addr) (uc : Nat) (fa : FA) : ((((((((((((scB (mvK S 39) T u f ua uc fa).setIfInBounds 10 (mvS S 114)).setIfInBounds 11 (mvS S 115)).setIfInBounds 15 (mvS S 116)).setIfInBounds 16 (mvS S 116)).setIfInBounds 17 (mvS S 116)).setIfInBounds 21 (mvS S 117)).setIfInBounds 18 (mvS S 118)).setIfInBounds 19 (mvS S 118)).setIfInBounds 35 (mvS S 119)).setIfInBounds 36 (mvS S 120)).setIfInBounds 45 (mvS S 121)).setIfInBounds 46 (mvS S 122) = scA S T u f ua uc fa (.slice none 0 0) 0 ft0 := by
  rw [scB_congr (K := mvK S 39) (K' := fun _ => mvS S 113) (fun j hj => if_pos hj)]
  kernel_rfl
attribute [local go_sem] run_store_float run_store_fn
attribute [local go_sem ↓] Go.wp_at_zero Go.wp_at_succ

set_option maxRecDepth 100000 in
set_option maxHeartbeats 4000000 in
theorem newScopes_calls (L : Nat) (u : UD) (f : Nat) (a : Option Addr) (cap : Nat) (fas : Nat → FA) (w : World) (hf : f < u.n) (hvn : (u.fn f).vn ≤ 200) (hT : FnsAt L w u.n u.fn a fas) :
    Calls Tryz.prog 62 #[unV u a cap, .int .i64 (f : Int)] w fun e w' => ∃ S T, e = .returned (.pointer (some ⟨S, 0, none⟩)) ∧ SS ⟨S, T, L, w, u, f, a, cap, fas⟩ [] 0 ft0 none 0 w' := by
  have HT : Hid (FnsAt L w u.n u.fn a fas) := hT
  have HF : Hid (f < u.n) := hf
  obtain ⟨b, off, e0, _, hb, d0, d1, d2, d3, d4, d5, d6⟩ := cells7 hT.1 hf
  subst e0
  clear hT
  have hmk := fun v => run_make_row' (P := Tryz.prog) 26 3 (.int .i64 0) 8 Tryz.underlying26 infoInt rfl .i64 .i64 (u.fn f).vn (by omega) (by omega) v
  go_enter Tryz.func62, Tryz.ntmps62
  go_upto_region 1 with fail
  have HS0 : Hid (∀ w', Below (w.alloc (.cells #[.slice (some ⟨b, off, none⟩) u.n cap] 30)).heap.size (w.alloc (.cells #[.slice (some ⟨b, off, none⟩) u.n cap] 30)) w' → w'.cell? ⟨w.heap.size, 0, none⟩ = some (.slice (some ⟨b, off, none⟩) u.n cap) ∧ w'.cell? ⟨b, off + f * 7, none⟩ = some (.string (u.fn f).name) ∧ w'.cell? ⟨b, off + f * 7 + 1, none⟩ = some (.int .i64 (u.fn f).line) ∧ w'.cell? ⟨b, off + f * 7 + 2, none⟩ = some (.int .i64 (u.fn f).params) ∧ w'.cell? ⟨b, off + f * 7 + 3, none⟩ = some (.bool (u.fn f).rest) ∧ w'.cell? ⟨b, off + f * 7 + 4, none⟩ = some (.slice (fas f).va (u.fn f).vn (fas f).vc) ∧ w'.cell? ⟨b, off + f * 7 + 5, none⟩ = some (.slice (fas f).ua (u.fn f).un (fas f).uc) ∧ w'.cell? ⟨b, off + f * 7 + 6, none⟩ = some (.slice (fas f).na (u.fn f).nn (fas f).nc)) := fun w' hw => by
    obtain ⟨b', off', e1, _, _, h⟩ := cells7 (HT.out.below (below_call (below_alloc _ _) hw)).1 HF.out
    cases e1
    exact ⟨(Has.made hw).cell 0 rfl, h⟩
  refine wp_region_held_drew (S := fun w' => w'.cell? ⟨w.heap.size, 0, none⟩ = some (.slice (some ⟨b, off, none⟩) u.n cap) ∧ w'.cell? ⟨b, off + f * 7, none⟩ = some (.string (u.fn f).name) ∧ w'.cell? ⟨b, off + f * 7 + 1, none⟩ = some (.int .i64 (u.fn f).line) ∧ w'.cell? ⟨b, off + f * 7 + 2, none⟩ = some (.int .i64 (u.fn f).params) ∧ w'.cell? ⟨b, off + f * 7 + 3, none⟩ = some (.bool (u.fn f).rest) ∧ w'.cell? ⟨b, off + f * 7 + 4, none⟩ = some (.slice (fas f).va (u.fn f).vn (fas f).vc) ∧ w'.cell? ⟨b, off + f * 7 + 5, none⟩ = some (.slice (fas f).ua (u.fn f).un (fas f).uc) ∧ w'.cell? ⟨b, off + f * 7 + 6, none⟩ = some (.slice (fas f).na (u.fn f).nn (fas f).nc)) (by kernel_rfl) (HS0.out _ (Below.refl _ _).drew) (fun hHold => ?_)
  refine wpAnyH_take (i := 0) (oi := ⟨some 7, _, _, _, _, _⟩) (v := ?v1) rfl (by kernel_rfl) (by kernel_rfl) (by kernel_rfl) (fun _ _ _ h => h) (Or.inl ⟨by rfl, ?hy1⟩) (by assumption) ?rest1
  case hy1 => (intro wz hSw; (try dsimp only at hSw); go_simp <;> with_reducible rfl)
  try simp only [Act.put, List.setIfInBounds_toArray, List.set_cons_zero, List.set_cons_succ]
  refine wpAnyH_take (i := 1) (oi := ⟨some 8, _, _, _, _, _⟩) (v := ?v2) rfl (by kernel_rfl) (by kernel_rfl) (by kernel_rfl) (fun _ _ _ h => h) (Or.inl ⟨by rfl, ?hy2⟩) (by assumption) ?rest2
  case hy2 => (intro wz hSw; (try dsimp only at hSw); go_simp <;> with_reducible rfl)
  try simp only [Act.put, List.setIfInBounds_toArray, List.set_cons_zero, List.set_cons_succ]
  refine wpAnyH_take (i := 2) (oi := ⟨some 9, _, _, _, _, _⟩) (v := ?v3) rfl (by kernel_rfl) (by kernel_rfl) (by kernel_rfl) (fun _ _ _ h => h) (Or.inl ⟨by rfl, ?hy3⟩) (by assumption) ?rest3
  case hy3 => (intro wz hSw; (try dsimp only at hSw); go_simp <;> with_reducible rfl)
  try simp only [Act.put, List.setIfInBounds_toArray, List.set_cons_zero, List.set_cons_succ]
  refine wpAnyH_take (i := 3) (oi := ⟨some 10, _, _, _, _, _⟩) (v := ?v4) rfl (by kernel_rfl) (by kernel_rfl) (by kernel_rfl) (fun _ _ _ h => h) (Or.inl ⟨by rfl, ?hy4⟩) (by assumption) ?rest4
  case hy4 => (intro wz hSw; (try dsimp only at hSw); go_simp <;> with_reducible rfl)
  try simp only [Act.put, List.setIfInBounds_toArray, List.set_cons_zero, List.set_cons_succ]
  refine wpAnyH_take (i := 4) (oi := ⟨some 11, _, _, _, _, _⟩) (v := ?v5) rfl (by kernel_rfl) (by kernel_rfl) (by kernel_rfl) (fun _ _ _ h => h) (Or.inl ⟨by rfl, ?hy5⟩) (by assumption) ?rest5
  case hy5 => (intro wz hSw; (try dsimp only at hSw); go_simp <;> with_reducible rfl)
  try simp only [Act.put, List.setIfInBounds_toArray, List.set_cons_zero, List.set_cons_succ]
  refine wpAnyH_take (i := 5) (oi := ⟨some 12, _, _, _, _, _⟩) (v := ?v6) rfl (by kernel_rfl) (by kernel_rfl) (by kernel_rfl) (fun _ _ _ h => h) (Or.inl ⟨by rfl, ?hy6⟩) (by assumption) ?rest6
  case hy6 => (intro wz hSw; (try dsimp only at hSw); go_simp <;> with_reducible rfl)
  try simp only [Act.put, List.setIfInBounds_toArray, List.set_cons_zero, List.set_cons_succ]
  refine wpAnyH_take (i := 6) (oi := ⟨some 13, _, _, _, _, _⟩) (v := ?v7) rfl (by kernel_rfl) (by kernel_rfl) (by kernel_rfl) (fun _ _ _ h => h) (Or.inl ⟨by rfl, ?hy7⟩) (by assumption) ?rest7
  case hy7 => (intro wz hSw; (try dsimp only at hSw); go_simp <;> with_reducible rfl)
  try simp only [Act.put, List.setIfInBounds_toArray, List.set_cons_zero, List.set_cons_succ]
  refine wpAnyH_take (i := 7) (oi := ⟨some 14, _, _, _, _, _⟩) (v := ?v8) rfl (by kernel_rfl) (by kernel_rfl) (by kernel_rfl) (fun _ _ _ h => h) (Or.inl ⟨by rfl, ?hy8⟩) (by assumption) ?rest8
  case hy8 => (intro wz hSw; (try dsimp only at hSw); go_simp <;> with_reducible rfl)
  try simp only [Act.put, List.setIfInBounds_toArray, List.set_cons_zero, List.set_cons_succ]
  refine wpAnyH_take (i := 8) (oi := ⟨some 15, _, _, _, _, _⟩) (v := ?v9) rfl (by kernel_rfl) (by kernel_rfl) (by kernel_rfl) (fun _ _ _ h => h) (Or.inl ⟨by rfl, ?hy9⟩) (by assumption) ?rest9
  case hy9 => (intro wz hSw; (try dsimp only at hSw); go_simp <;> with_reducible rfl)
  try simp only [Act.put, List.setIfInBounds_toArray, List.set_cons_zero, List.set_cons_succ]
  refine wpAnyH_take (i := 9) (oi := ⟨some 16, _, _, _, _, _⟩) (v := ?v10) rfl (by kernel_rfl) (by kernel_rfl) (by kernel_rfl) (fun _ _ _ h => h) (Or.inl ⟨by rfl, ?hy10⟩) (by assumption) ?rest10
  case hy10 => (intro wz hSw; (try dsimp only at hSw); go_simp <;> with_reducible rfl)
  try simp only [Act.put, List.setIfInBounds_toArray, List.set_cons_zero, List.set_cons_succ]
  refine wpAnyH_take (i := 10) (oi := ⟨some 17, _, _, _, _, _⟩) (v := ?v11) rfl (by kernel_rfl) (by kernel_rfl) (by kernel_rfl) (fun _ _ _ h => h) (Or.inl ⟨by rfl, ?hy11⟩) (by assumption) ?rest11
  case hy11 => (intro wz hSw; (try dsimp only at hSw); go_simp <;> with_reducible rfl)
  try simp only [Act.put, List.setIfInBounds_toArray, List.set_cons_zero, List.set_cons_succ]
  refine wpAnyH_take (i := 11) (oi := ⟨some 18, _, _, _, _, _⟩) (v := ?v12) rfl (by kernel_rfl) (by kernel_rfl) (by kernel_rfl) (fun _ _ _ h => h) (Or.inl ⟨by rfl, ?hy12⟩) (by assumption) ?rest12
  case hy12 => (intro wz hSw; (try dsimp only at hSw); go_simp <;> with_reducible rfl)
  try simp only [Act.put, List.setIfInBounds_toArray, List.set_cons_zero, List.set_cons_succ]
  refine wpAnyH_take (i := 12) (oi := ⟨some 19, _, _, _, _, _⟩) (v := ?v13) rfl (by kernel_rfl) (by kernel_rfl) (by kernel_rfl) (fun _ _ _ h => h) (Or.inl ⟨by rfl, ?hy13⟩) (by assumption) ?rest13
  case hy13 => (intro wz hSw; (try dsimp only at hSw); go_simp <;> with_reducible rfl)
  try simp only [Act.put, List.setIfInBounds_toArray, List.set_cons_zero, List.set_cons_succ]
  refine wpAnyH_take (i := 13) (oi := ⟨some 20, _, _, _, _, _⟩) (v := ?v14) rfl (by kernel_rfl) (by kernel_rfl) (by kernel_rfl) (fun _ _ _ h => h) (Or.inl ⟨by rfl, ?hy14⟩) (by assumption) ?rest14
  case hy14 => (intro wz hSw; (try dsimp only at hSw); go_simp <;> with_reducible rfl)
  try simp only [Act.put, List.setIfInBounds_toArray, List.set_cons_zero, List.set_cons_succ]
  refine wpAnyH_ready (rs := [14]) (by kernel_rfl) (by simp) ?_
  refine AllReadyH.cons (o := ⟨some 21, _, _, _, _, _⟩) rfl (fun K hK => ?_) AllReadyH.nil
  go_simp
  refine hK.out _ _ (HS0.out _ ((below_alloc _ _).drew)) (fun hHeld => ?_)
  clear hK K hHold
  have hHold := hHeld
  clear hHeld hmk
  refine wpAnyH_take (i := 15) (oi := ⟨some 22, _, _, _, _, _⟩) (v := ?v16) rfl (by kernel_rfl) (by kernel_rfl) (by kernel_rfl) (fun _ _ _ h => h) (Or.inl ⟨by rfl, ?hy16⟩) (by assumption) ?rest16
  case hy16 => (intro wz hSw; (try dsimp only at hSw); go_simp <;> with_reducible rfl)
  try simp only [Act.put, List.setIfInBounds_toArray, List.set_cons_zero, List.set_cons_succ]
  refine wpAnyH_ready (rs := [16]) (by kernel_rfl) (by simp) ?_
  refine AllReadyH.cons (o := ⟨some 23, _, _, _, _, _⟩) rfl (fun K hK => ?_) AllReadyH.nil
  go_simp
  refine hK.out _ _ (HS0.out _ (((below_alloc _ _).alloc (by simp) _).drew)) (fun hHeld => ?_)
  clear hK K hHold
  have hHold := hHeld
  clear hHeld
  refine wpAnyH_take (i := 17) (oi := ⟨some 5, _, _, _, _, _⟩) (v := ?v18) rfl (by kernel_rfl) (by kernel_rfl) (by kernel_rfl) (fun _ _ _ h => h) (Or.inl ⟨by rfl, ?hy18⟩) (by assumption) ?rest18
  case hy18 => (intro wz hSw; (try dsimp only at hSw); go_simp <;> with_reducible rfl)
  try simp only [Act.put, List.setIfInBounds_toArray, List.set_cons_zero, List.set_cons_succ]
  refine wpAnyH_done (by kernel_rfl) ?_ _
  obtain ⟨w1, hw1⟩ : ∃ w1, w1 = (((w.alloc (.cells #[.slice (some ⟨b, off, none⟩) u.n cap] 30)).alloc (.cells (madeCells #[.int .i64 0] (u.fn f).vn) 3)).alloc (.cells (scB (fun _ => .nilFunc) (w.heap.size + 1) u f (some ⟨b, off, none⟩) cap (fas f)) 134)).drew := ⟨_, rfl⟩
  have HO1 : Hid (OwnB w1 (w.heap.size + 1 + 1) (scB (mvK (w.heap.size + 1 + 1) 0) (w.heap.size + 1) u f (some ⟨b, off, none⟩) cap (fas f))) := by
    show OwnB _ _ _
    have h := OwnB.new ((w.alloc (.cells #[.slice (some ⟨b, off, none⟩) u.n cap] 30)).alloc (.cells (madeCells #[.int .i64 0] (u.fn f).vn) 3)) (scB (fun _ => .nilFunc) (w.heap.size + 1) u f (some ⟨b, off, none⟩) cap (fas f)) 134
    rw [show ((w.alloc (.cells #[.slice (some ⟨b, off, none⟩) u.n cap] 30)).alloc (.cells (madeCells #[.int .i64 0] (u.fn f).vn) 3)).heap.size = w.heap.size + 1 + 1 by simp] at h
    rw [hw1]
    exact h
  have HR1 : Hid (CRow w1 (w.heap.size + 1) (u.fn f).vn (cnt [])) := by
    have h := (rowMade (w.alloc (.cells #[.slice (some ⟨b, off, none⟩) u.n cap] 30)) (.int .i64 0) 3 (n := (u.fn f).vn) (b := w.heap.size + 1) (by simp)).alloc (.cells (scB (fun _ => .nilFunc) (w.heap.size + 1) u f (some ⟨b, off, none⟩) cap (fas f)) 134)
    rw [hw1]
    exact h
  have HB1 : Hid (Below w.heap.size w w1) := by show Below _ _ _; rw [hw1]; exact (below_alloc3 _ _ _ _).drew
  simp only [scB] at hw1
  rw [← hw1]
  clear hw1 hHold d0 d1 d2 d3 d4 d5 d6 HS0
  have hmf : ∀ (fn : Fn) (first cap : Array Value) (w : World), (Instr.makeFunc fn first cap).run Tryz.prog w = .ok (.func fn first cap) w := fun _ _ _ _ => rfl
  go_wp2_with fail
  go_loopw [24] (fun i wr => ∃ (k : Nat), k ≤ 39 ∧ i = .int .i64 k ∧ Hid (OwnB wr (w.heap.size + 1 + 1) (scB (mvK (w.heap.size + 1 + 1) k) (w.heap.size + 1) u f (some ⟨b, off, none⟩) cap (fas f))) ∧ Hid (TOnly (w.heap.size + 1 + 1) w1 wr)) (fun i _ => 39 - (intOf i).toNat)
  case atStart => exact ⟨0, Nat.zero_le _, rfl, HO1, TOnly.refl _ _⟩
  case round =>
    clear HO1
    obtain ⟨k, hk, rfl, HO, HTo⟩ := hrel
    by_cases hkn : k < 39
    · have g0 := HO.out.1.cell (9 + k) (scB_at _ _ _ _ _ _ _ k hkn)
      have z := HO.out.2
      have HO2 : Hid (OwnB (wr.setCell ⟨w.heap.size + 1 + 1, 9 + k, none⟩ (mvS (w.heap.size + 1 + 1) 113)) (w.heap.size + 1 + 1) (scB (mvK (w.heap.size + 1 + 1) (k + 1)) (w.heap.size + 1) u f (some ⟨b, off, none⟩) cap (fas f))) := by
        have h := HO.out.set (o := 9 + k) (by show 9 + k < 54; omega) (mvS (w.heap.size + 1 + 1) 113)
        rw [scB_set _ _ _ _ _ _ _ k hkn, scB_congr (fun j _ => mvK_succ (w.heap.size + 1 + 1) k j)] at h
        exact h
      go_wp2_with fail
      go_roundw
      case rel => exact ⟨k + 1, by omega, by go_num, HO2, HTo.out.set _ _⟩
      case measure => simp [intOf]; omega
    · obtain rfl : k = 39 := by omega
      have z := HO.out.2
      have q1 := HO.out.1.cell 10 rfl
      have q2 := HO.out.1.cell 11 rfl
      have q6 := HO.out.1.cell 15 rfl
      have q7 := HO.out.1.cell 16 rfl
      have q8 := HO.out.1.cell 17 rfl
      have q12 := HO.out.1.cell 21 rfl
      have q9 := HO.out.1.cell 18 rfl
      have q10 := HO.out.1.cell 19 rfl
      have q26 := HO.out.1.cell 35 rfl
      have q27 := HO.out.1.cell 36 rfl
      have q36 := HO.out.1.cell 45 rfl
      have q37 := HO.out.1.cell 46 rfl
      go_wp2_with fail
      go_ret
      have HTo2 := ((((((((((((HTo.out.set 10 (mvS (w.heap.size + 1 + 1) 114)).set 11 (mvS (w.heap.size + 1 + 1) 115)).set 15 (mvS (w.heap.size + 1 + 1) 116)).set 16 (mvS (w.heap.size + 1 + 1) 116)).set 17 (mvS (w.heap.size + 1 + 1) 116)).set 21 (mvS (w.heap.size + 1 + 1) 117)).set 18 (mvS (w.heap.size + 1 + 1) 118)).set 19 (mvS (w.heap.size + 1 + 1) 118)).set 35 (mvS (w.heap.size + 1 + 1) 119)).set 36 (mvS (w.heap.size + 1 + 1) 120)).set 45 (mvS (w.heap.size + 1 + 1) 121)).set 46 (mvS (w.heap.size + 1 + 1) 122))
      refine ⟨w.heap.size + 1 + 1, w.heap.size + 1, rfl, ?_, World.rowIs.of_block HR1.out (HTo2.block (w.heap.size + 1) (by omega)), World.ownsRow_nil _ _ _ _, (fun v hv => absurd hv (by simp)), by show w.heap.size + 1 + 1 ≠ w.heap.size + 1; omega, (fun e => by cases e), (fun e => by cases e), by show w.heap.size ≤ w.heap.size + 1 + 1; omega, by show w.heap.size ≤ w.heap.size + 1; omega, ?_⟩
      · have h := own12 HO.out rfl (mvS (w.heap.size + 1 + 1) 114) (mvS (w.heap.size + 1 + 1) 115) (mvS (w.heap.size + 1 + 1) 116) (mvS (w.heap.size + 1 + 1) 116) (mvS (w.heap.size + 1 + 1) 116) (mvS (w.heap.size + 1 + 1) 117) (mvS (w.heap.size + 1 + 1) 118) (mvS (w.heap.size + 1 + 1) 118) (mvS (w.heap.size + 1 + 1) 119) (mvS (w.heap.size + 1 + 1) 120) (mvS (w.heap.size + 1 + 1) 121) (mvS (w.heap.size + 1 + 1) 122)
        rw [scB_done] at h
        exact h
      · exact HB1.out.trans ⟨HTo2.same.1, HTo2.same.2.1, HTo2.same.2.2, by rw [HTo2.size]; exact Nat.le_refl _, fun k hk => HTo2.block k (by omega)⟩
end Go.Proofs.YtcpjnddkibbddaaGreat

/-! The program's scopes: what is declared twice. -/
namespace Go.Proofs.YtcpjnddkibbddaaGreat
open Go.RowKit
attribute [local go_sem] run_store_float
attribute [local go_sem ↓] Go.wp_at_zero Go.wp_at_succ

/-- what is noted up to ref j of node m -/
def BadR (d : FD) (m b : Nat) : Prop := ¬ (InR ((d.nd m).r b) d.vn ∧ ¬ SeenV d m b ((d.nd m).r b))
def NoteE (u : UD) (f m j : Nat) (y : FT) : Prop := (∃ x, x < m ∧ NoteD u f x y) ∨ (y = ⟨6, f, m⟩ ∧ DeclK ((u.fn f).nd m).k ∧ ∃ b, b < j ∧ BadR (u.fn f) m b)
theorem noteE_zero (u : UD) (f : Nat) (y : FT) : ¬ NoteE u f 0 0 y := by
  rintro (⟨x, h, _⟩ | ⟨_, _, b, h, _⟩) <;> omega
theorem noteE_yes {u : UD} {f m j : Nat} (hd : DeclK ((u.fn f).nd m).k) (hb : BadR (u.fn f) m j) (y : FT) : NoteE u f m (j + 1) y ↔ NoteE u f m j y ∨ y = ⟨6, f, m⟩ := by
  constructor
  · rintro (h | ⟨h, _⟩)
    · exact .inl (.inl h)
    · exact .inr h
  · rintro ((h | ⟨h1, h2, b, h3, h4⟩) | h)
    · exact .inl h
    · exact .inr ⟨h1, h2, b, by omega, h4⟩
    · exact .inr ⟨h, hd, j, by omega, hb⟩
theorem noteE_no {u : UD} {f m j : Nat} (hb : ¬ BadR (u.fn f) m j) (y : FT) : NoteE u f m (j + 1) y ↔ NoteE u f m j y := by
  constructor
  · rintro (h | ⟨h1, h2, b, h3, h4⟩)
    · exact .inl h
    · by_cases e : b = j
      · subst e; exact absurd h4 hb
      · exact .inr ⟨h1, h2, b, by omega, h4⟩
  · rintro (h | ⟨h1, h2, b, h3, h4⟩)
    · exact .inl h
    · exact .inr ⟨h1, h2, b, by omega, h4⟩
theorem noteD_iff {u : UD} {f m : Nat} (y : FT) : NoteD u f m y ↔ (y = ⟨6, f, m⟩ ∧ DeclK ((u.fn f).nd m).k ∧ ∃ b, b < ((u.fn f).nd m).rn ∧ BadR (u.fn f) m b) := by
  constructor
  · rintro ⟨h1, h2, h3, h4, b, h5, h6⟩
    exact ⟨FT.ext h1 h2 h3, h4, b, h5, h6⟩
  · rintro ⟨rfl, h4, b, h5, h6⟩
    exact ⟨rfl, rfl, rfl, h4, b, h5, h6⟩
theorem noteE_next {u : UD} {f m : Nat} (y : FT) : NoteE u f m ((u.fn f).nd m).rn y ↔ NoteE u f (m + 1) 0 y := by
  constructor
  · rintro (⟨x, h, h'⟩ | h)
    · exact .inl ⟨x, by omega, h'⟩
    · exact .inl ⟨m, by omega, (noteD_iff y).2 h⟩
  · rintro (⟨x, h, h'⟩ | ⟨_, _, b, h, _⟩)
    · by_cases e : x = m
      · subst e; exact .inr ((noteD_iff y).1 h')
      · exact .inl ⟨x, by omega, h'⟩
    · omega
theorem noteE_plain {u : UD} {f m : Nat} (hd : ¬ DeclK ((u.fn f).nd m).k) (y : FT) : NoteE u f m 0 y ↔ NoteE u f (m + 1) 0 y := by
  constructor
  · rintro (⟨x, h, h'⟩ | ⟨_, _, b, h, _⟩)
    · exact .inl ⟨x, by omega, h'⟩
    · omega
  · rintro (⟨x, h, h'⟩ | ⟨_, _, b, h, _⟩)
    · by_cases e : x = m
      · subst e; exact absurd h'.2.2.2.1 hd
      · exact .inl ⟨x, by omega, h'⟩
    · omega
theorem noteE_all {u : UD} {f n : Nat} (y : FT) : NoteE u f n 0 y ↔ ∃ x, x < n ∧ NoteD u f x y := by
  constructor
  · rintro (h | ⟨_, _, b, h, _⟩)
    · exact h
    · omega
  · exact .inl
noncomputable def dcK (k : Int) : Bool := dB (DeclK k)
theorem setDc (k : Int) : setB 4484 k = dcK k := by
  have h := setB_as 4484 (by decide) (fun k => k == 2 || k == 7 || k == 8 || k == 12) (by decide) (fun k h => by simp at h; omega) k
  rw [h]
  unfold dcK
  by_cases c : DeclK k
  · rw [dB_true c]
    unfold DeclK at c
    simp
    omega
  · rw [dB_false c]
    unfold DeclK at c
    simp
    omega

/-- a store into a block that is elsewhere -/
theorem SS.far {C : CX} {st : List Int} {ins : Nat} {x : FT} {a : Option Addr} {cap : Nat} {w : World} (h : SS C st ins x a cap w) {B : Nat} (h0 : C.w0.heap.size ≤ B) (h1 : B ≠ C.S) (h2 : B ≠ C.T) (h3 : bkOf a ≠ some B) (o : Nat) (v : Value) : SS C st ins x a cap (w.setCell ⟨B, o, none⟩ v) := by
  have hk : ∀ k, k ≠ B → (w.setCell ⟨B, o, none⟩ v).heap[k]? = w.heap[k]? := fun k hk => Below.heap_setCell w ⟨B, o, none⟩ v k hk
  exact ⟨h.box.block (by simp) (hk _ (Ne.symm h1)), World.rowIs.of_block h.tm (hk _ (Ne.symm h2)), ownsRow_block h.sk (fun k e => hk k (fun c => h3 (c ▸ e))), h.rg, h.sT, h.sa, h.ta, h.nS, h.nT, frS h.b h0 _⟩
theorem Mv.new {S T : Nat} {a a' : Option Addr} {w w' : World} (h : Mv S T a w a' w') {B : Nat} (hB : w.heap.size ≤ B) (o : Nat) (v : Value) : Mv S T a w a' (w'.setCell ⟨B, o, none⟩ v) :=
  ⟨⟨h.kp.os, h.kp.tape, h.kp.output, by have := h.kp.size; simpa using this, fun k hk h1 h2 h3 => (Below.heap_setCell w' ⟨B, o, none⟩ v k (by show k ≠ B; omega)).trans (h.kp.block k hk h1 h2 h3)⟩, h.nw⟩
/-- a block that is new behind a step is none of the three -/
theorem Mv.far {S T : Nat} {a a' : Option Addr} {w w' : World} (h : Mv S T a w a' w') {B : Nat} (hB : B < w.heap.size) (h3 : bkOf a ≠ some B) : bkOf a' ≠ some B := by
  rcases h.nw with e | ⟨k, e, hk⟩
  · rw [e]; exact h3
  · rw [e]; intro c; cases c; omega
theorem SS.c6 {C : CX} {st : List Int} {ins : Nat} {x : FT} {a : Option Addr} {cap : Nat} {w : World} (h : SS C st ins x a cap w) : w.cell? ⟨C.S, 6, none⟩ = some (.slice C.fa.va C.d.vn C.fa.vc) := h.box.1.cell 6 rfl
theorem SS.c4 {C : CX} {st : List Int} {ins : Nat} {x : FT} {a : Option Addr} {cap : Nat} {w : World} (h : SS C st ins x a cap w) : w.cell? ⟨C.S, 4, none⟩ = some (.int .i64 C.d.params) := h.box.1.cell 4 rfl

/-- the row of what is declared, and the state beside it -/
structure DT (C : CX) (st : List Int) (ins : Nat) (D m j : Nat) (x : FT) (a : Option Addr) (cap : Nat) (w : World) : Prop where
  ss : SS C st ins x a cap w
  row : SeenRow w D C.d m j
  far : D ≠ C.S ∧ D ≠ C.T ∧ bkOf a ≠ some D
  ge : C.w0.heap.size ≤ D
  lt : D < w.heap.size
theorem DT.alloc {C : CX} {st : List Int} {ins : Nat} {D m j : Nat} {x : FT} {a : Option Addr} {cap : Nat} {w : World} (h : DT C st ins D m j x a cap w) (o : Obj) : DT C st ins D m j x a cap (w.alloc o) := ⟨h.ss.alloc o, h.row.below (below_alloc _ _), h.far, h.ge, by have := h.lt; simp; omega⟩
theorem DT.note {C : CX} {st : List Int} {ins : Nat} {D m j : Nat} {x : FT} {a : Option Addr} {cap : Nat} {w : World} (h : DT C st ins D m j x a cap w) {x' : FT} {w' : World} (hn : NotePost C st ins x' a cap w w') : DT C st ins D m j x' a cap w' :=
  ⟨hn.1, World.rowIs.of_block h.row (hn.2.kp.block D h.lt h.far.1 h.far.2.1 h.far.2.2), h.far, h.ge, Nat.lt_of_lt_of_le h.lt hn.2.kp.size⟩
theorem DT.same {C : CX} {st : List Int} {ins : Nat} {D m j m' j' : Nat} {x : FT} {a : Option Addr} {cap : Nat} {w : World} (h : DT C st ins D m j x a cap w) (e : ∀ v : Nat, SeenV C.d m j v ↔ SeenV C.d m' j' v) : DT C st ins D m' j' x a cap w := ⟨h.ss, h.row.congr e, h.far, h.ge, h.lt⟩
theorem DT.set {C : CX} {st : List Int} {ins : Nat} {D m j : Nat} {x : FT} {a : Option Addr} {cap : Nat} {w : World} (h : DT C st ins D m j x a cap w) {y : Nat} (hy : (C.d.nd m).r j = y) : DT C st ins D m (j + 1) x a cap (w.setCell ⟨D, y, none⟩ (.bool true)) := ⟨h.ss.far h.ge h.far.1 h.far.2.1 h.far.2.2 _ _, h.row.set hy, h.far, h.ge, by have := h.lt; simpa using this⟩
theorem DT.skip {C : CX} {st : List Int} {ins : Nat} {D m j : Nat} {x : FT} {a : Option Addr} {cap : Nat} {w : World} (h : DT C st ins D m j x a cap w) (e : ∀ v : Nat, v < C.d.vn → (C.d.nd m).r j = v → SeenV C.d m j v) : DT C st ins D m (j + 1) x a cap w := ⟨h.ss, World.rowIs.congr h.row fun i hi => by
  have h1 : SeenV C.d m (j + 1) i ↔ SeenV C.d m j i := by
    rw [seenV_succ]
    exact ⟨fun h => h.elim id (e i hi), .inl⟩
  by_cases c : SeenV C.d m j i
  · rw [dB_true c, dB_true (h1.2 c)]
  · rw [dB_false c, dB_false (fun c' => c (h1.1 c'))], h.far, h.ge, h.lt⟩
end Go.Proofs.YtcpjnddkibbddaaGreat
