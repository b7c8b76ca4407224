import Derived.Test.YtdialodjllpgaaaGreatDoorBdJ
import Derived.Deep.RegionHeld
import Derived.Test.YtdialodjllpgaaaGreatDoorThB
import Derived.Test.YtdialodjllpgaaaGreatDoorImA
/-! The program's scopes: a new visitor. -/
namespace Go.Proofs.YtdialodjllpgaaaGreatDoor
open Go.RowKit
theorem run_store_fnS (P : Program) (w : World) (a : Addr) (m : Mode) (fn : Fn) (first captured : Array Value) : (store a (.func fn first captured) m).run P w = stored P w a (.func fn first captured) m := run_store P w a _ m rfl
theorem own12 {w : World} {S : Nat} {A : Array Value} (h : OwnB w S A) (hA : A.size = 54) (v0 v1 v2 v3 v4 v5 v6 v7 v8 v9 v10 v11 : Value) : OwnB ((((((((((((w.setCell ⟨S, 10, none⟩ v0).setCell ⟨S, 11, none⟩ v1).setCell ⟨S, 15, none⟩ v2).setCell ⟨S, 16, none⟩ v3).setCell ⟨S, 17, none⟩ v4).setCell ⟨S, 21, none⟩ v5).setCell ⟨S, 18, none⟩ v6).setCell ⟨S, 19, none⟩ v7).setCell ⟨S, 35, none⟩ v8).setCell ⟨S, 36, none⟩ v9).setCell ⟨S, 45, none⟩ v10).setCell ⟨S, 46, none⟩ v11) S ((((((((((((A.setIfInBounds 10 v0).setIfInBounds 11 v1).setIfInBounds 15 v2).setIfInBounds 16 v3).setIfInBounds 17 v4).setIfInBounds 21 v5).setIfInBounds 18 v6).setIfInBounds 19 v7).setIfInBounds 35 v8).setIfInBounds 36 v9).setIfInBounds 45 v10).setIfInBounds 46 v11) := ((((((((((((h.set (o := 10) (by simp [hA]) v0).set (o := 11) (by simp [hA]) v1).set (o := 15) (by simp [hA]) v2).set (o := 16) (by simp [hA]) v3).set (o := 17) (by simp [hA]) v4).set (o := 21) (by simp [hA]) v5).set (o := 18) (by simp [hA]) v6).set (o := 19) (by simp [hA]) v7).set (o := 35) (by simp [hA]) v8).set (o := 36) (by simp [hA]) v9).set (o := 45) (by simp [hA]) v10).set (o := 46) (by simp [hA]) v11)
set_option maxRecDepth 100000 in
theorem scB_done (S T : Nat) (u : UD) (f : Nat) (ua : Option Addr) (uc : Nat) (fa : FA) : ((((((((((((scB (mvK S 39) T u f ua uc fa).setIfInBounds 10 (mvS S 127)).setIfInBounds 11 (mvS S 128)).setIfInBounds 15 (mvS S 129)).setIfInBounds 16 (mvS S 129)).setIfInBounds 17 (mvS S 129)).setIfInBounds 21 (mvS S 130)).setIfInBounds 18 (mvS S 131)).setIfInBounds 19 (mvS S 131)).setIfInBounds 35 (mvS S 132)).setIfInBounds 36 (mvS S 133)).setIfInBounds 45 (mvS S 134)).setIfInBounds 46 (mvS S 135) = scA S T u f ua uc fa (.slice none 0 0) 0 ft0 := by
  rw [scB_congr (K := mvK S 39) (K' := fun _ => mvS S 126) (fun j hj => if_pos hj)]
  kernel_rfl
attribute [local go_sem] run_store_float run_store_fnS
attribute [local go_sem ↓] Go.wp_at_zero Go.wp_at_succ

set_option maxRecDepth 100000 in
set_option maxHeartbeats 4000000 in
theorem newScopes_calls (L : Nat) (u : UD) (f : Nat) (a : Option Addr) (cap : Nat) (fas : Nat → FA) (w : World) (hf : f < u.n) (hvn : (u.fn f).vn ≤ 200) (hT : FnsAt L w u.n u.fn a fas) :
    Calls Tryz.prog 78 #[unV u a cap, .int .i64 (f : Int)] w fun e w' => ∃ S T, e = .returned (.pointer (some ⟨S, 0, none⟩)) ∧ SS ⟨S, T, L, w, u, f, a, cap, fas⟩ [] 0 ft0 none 0 w' := by
  have HT : Hid (FnsAt L w u.n u.fn a fas) := hT
  have HF : Hid (f < u.n) := hf
  obtain ⟨b, off, e0, _, hb, d0, d1, d2, d3, d4, d5, d6⟩ := cells7 hT.1 hf
  subst e0
  clear hT
  have hmk := fun v => run_make_row' (P := Tryz.prog) 49 3 (.int .i64 0) 8 Tryz.underlying49 infoInt rfl .i64 .i64 (u.fn f).vn (by omega) (by omega) v
  go_enter Tryz.func78, Tryz.ntmps78
  go_upto_region 1 with fail
  have HS0 : Hid (∀ w', Below (w.alloc (.cells #[.slice (some ⟨b, off, none⟩) u.n cap] 31)).heap.size (w.alloc (.cells #[.slice (some ⟨b, off, none⟩) u.n cap] 31)) w' → w'.cell? ⟨w.heap.size, 0, none⟩ = some (.slice (some ⟨b, off, none⟩) u.n cap) ∧ w'.cell? ⟨b, off + f * 7, none⟩ = some (.string (u.fn f).name) ∧ w'.cell? ⟨b, off + f * 7 + 1, none⟩ = some (.int .i64 (u.fn f).line) ∧ w'.cell? ⟨b, off + f * 7 + 2, none⟩ = some (.int .i64 (u.fn f).params) ∧ w'.cell? ⟨b, off + f * 7 + 3, none⟩ = some (.bool (u.fn f).rest) ∧ w'.cell? ⟨b, off + f * 7 + 4, none⟩ = some (.slice (fas f).va (u.fn f).vn (fas f).vc) ∧ w'.cell? ⟨b, off + f * 7 + 5, none⟩ = some (.slice (fas f).ua (u.fn f).un (fas f).uc) ∧ w'.cell? ⟨b, off + f * 7 + 6, none⟩ = some (.slice (fas f).na (u.fn f).nn (fas f).nc)) := fun w' hw => by
    obtain ⟨b', off', e1, _, _, h⟩ := cells7 (HT.out.below (below_call (below_alloc _ _) hw)).1 HF.out
    cases e1
    exact ⟨(Has.made hw).cell 0 rfl, h⟩
  refine wp_region_held_drew (S := fun w' => w'.cell? ⟨w.heap.size, 0, none⟩ = some (.slice (some ⟨b, off, none⟩) u.n cap) ∧ w'.cell? ⟨b, off + f * 7, none⟩ = some (.string (u.fn f).name) ∧ w'.cell? ⟨b, off + f * 7 + 1, none⟩ = some (.int .i64 (u.fn f).line) ∧ w'.cell? ⟨b, off + f * 7 + 2, none⟩ = some (.int .i64 (u.fn f).params) ∧ w'.cell? ⟨b, off + f * 7 + 3, none⟩ = some (.bool (u.fn f).rest) ∧ w'.cell? ⟨b, off + f * 7 + 4, none⟩ = some (.slice (fas f).va (u.fn f).vn (fas f).vc) ∧ w'.cell? ⟨b, off + f * 7 + 5, none⟩ = some (.slice (fas f).ua (u.fn f).un (fas f).uc) ∧ w'.cell? ⟨b, off + f * 7 + 6, none⟩ = some (.slice (fas f).na (u.fn f).nn (fas f).nc)) (by kernel_rfl) (HS0.out _ (Below.refl _ _).drew) (fun hHold => ?_)
  refine wpAnyH_take (i := 0) (oi := ⟨some 7, _, _, _, _, _⟩) (v := ?v1) rfl (by kernel_rfl) (by kernel_rfl) (by kernel_rfl) (fun _ _ _ h => h) (Or.inl ⟨by rfl, ?hy1⟩) (by assumption) ?rest1
  case hy1 => (intro wz hSw; (try dsimp only at hSw); go_simp <;> with_reducible rfl)
  try simp only [Act.put, List.setIfInBounds_toArray, List.set_cons_zero, List.set_cons_succ]
  refine wpAnyH_take (i := 1) (oi := ⟨some 8, _, _, _, _, _⟩) (v := ?v2) rfl (by kernel_rfl) (by kernel_rfl) (by kernel_rfl) (fun _ _ _ h => h) (Or.inl ⟨by rfl, ?hy2⟩) (by assumption) ?rest2
  case hy2 => (intro wz hSw; (try dsimp only at hSw); go_simp <;> with_reducible rfl)
  try simp only [Act.put, List.setIfInBounds_toArray, List.set_cons_zero, List.set_cons_succ]
  refine wpAnyH_take (i := 2) (oi := ⟨some 9, _, _, _, _, _⟩) (v := ?v3) rfl (by kernel_rfl) (by kernel_rfl) (by kernel_rfl) (fun _ _ _ h => h) (Or.inl ⟨by rfl, ?hy3⟩) (by assumption) ?rest3
  case hy3 => (intro wz hSw; (try dsimp only at hSw); go_simp <;> with_reducible rfl)
  try simp only [Act.put, List.setIfInBounds_toArray, List.set_cons_zero, List.set_cons_succ]
  refine wpAnyH_take (i := 3) (oi := ⟨some 10, _, _, _, _, _⟩) (v := ?v4) rfl (by kernel_rfl) (by kernel_rfl) (by kernel_rfl) (fun _ _ _ h => h) (Or.inl ⟨by rfl, ?hy4⟩) (by assumption) ?rest4
  case hy4 => (intro wz hSw; (try dsimp only at hSw); go_simp <;> with_reducible rfl)
  try simp only [Act.put, List.setIfInBounds_toArray, List.set_cons_zero, List.set_cons_succ]
  refine wpAnyH_take (i := 4) (oi := ⟨some 11, _, _, _, _, _⟩) (v := ?v5) rfl (by kernel_rfl) (by kernel_rfl) (by kernel_rfl) (fun _ _ _ h => h) (Or.inl ⟨by rfl, ?hy5⟩) (by assumption) ?rest5
  case hy5 => (intro wz hSw; (try dsimp only at hSw); go_simp <;> with_reducible rfl)
  try simp only [Act.put, List.setIfInBounds_toArray, List.set_cons_zero, List.set_cons_succ]
  refine wpAnyH_take (i := 5) (oi := ⟨some 12, _, _, _, _, _⟩) (v := ?v6) rfl (by kernel_rfl) (by kernel_rfl) (by kernel_rfl) (fun _ _ _ h => h) (Or.inl ⟨by rfl, ?hy6⟩) (by assumption) ?rest6
  case hy6 => (intro wz hSw; (try dsimp only at hSw); go_simp <;> with_reducible rfl)
  try simp only [Act.put, List.setIfInBounds_toArray, List.set_cons_zero, List.set_cons_succ]
  refine wpAnyH_take (i := 6) (oi := ⟨some 13, _, _, _, _, _⟩) (v := ?v7) rfl (by kernel_rfl) (by kernel_rfl) (by kernel_rfl) (fun _ _ _ h => h) (Or.inl ⟨by rfl, ?hy7⟩) (by assumption) ?rest7
  case hy7 => (intro wz hSw; (try dsimp only at hSw); go_simp <;> with_reducible rfl)
  try simp only [Act.put, List.setIfInBounds_toArray, List.set_cons_zero, List.set_cons_succ]
  refine wpAnyH_take (i := 7) (oi := ⟨some 14, _, _, _, _, _⟩) (v := ?v8) rfl (by kernel_rfl) (by kernel_rfl) (by kernel_rfl) (fun _ _ _ h => h) (Or.inl ⟨by rfl, ?hy8⟩) (by assumption) ?rest8
  case hy8 => (intro wz hSw; (try dsimp only at hSw); go_simp <;> with_reducible rfl)
  try simp only [Act.put, List.setIfInBounds_toArray, List.set_cons_zero, List.set_cons_succ]
  refine wpAnyH_take (i := 8) (oi := ⟨some 15, _, _, _, _, _⟩) (v := ?v9) rfl (by kernel_rfl) (by kernel_rfl) (by kernel_rfl) (fun _ _ _ h => h) (Or.inl ⟨by rfl, ?hy9⟩) (by assumption) ?rest9
  case hy9 => (intro wz hSw; (try dsimp only at hSw); go_simp <;> with_reducible rfl)
  try simp only [Act.put, List.setIfInBounds_toArray, List.set_cons_zero, List.set_cons_succ]
  refine wpAnyH_take (i := 9) (oi := ⟨some 16, _, _, _, _, _⟩) (v := ?v10) rfl (by kernel_rfl) (by kernel_rfl) (by kernel_rfl) (fun _ _ _ h => h) (Or.inl ⟨by rfl, ?hy10⟩) (by assumption) ?rest10
  case hy10 => (intro wz hSw; (try dsimp only at hSw); go_simp <;> with_reducible rfl)
  try simp only [Act.put, List.setIfInBounds_toArray, List.set_cons_zero, List.set_cons_succ]
  refine wpAnyH_take (i := 10) (oi := ⟨some 17, _, _, _, _, _⟩) (v := ?v11) rfl (by kernel_rfl) (by kernel_rfl) (by kernel_rfl) (fun _ _ _ h => h) (Or.inl ⟨by rfl, ?hy11⟩) (by assumption) ?rest11
  case hy11 => (intro wz hSw; (try dsimp only at hSw); go_simp <;> with_reducible rfl)
  try simp only [Act.put, List.setIfInBounds_toArray, List.set_cons_zero, List.set_cons_succ]
  refine wpAnyH_take (i := 11) (oi := ⟨some 18, _, _, _, _, _⟩) (v := ?v12) rfl (by kernel_rfl) (by kernel_rfl) (by kernel_rfl) (fun _ _ _ h => h) (Or.inl ⟨by rfl, ?hy12⟩) (by assumption) ?rest12
  case hy12 => (intro wz hSw; (try dsimp only at hSw); go_simp <;> with_reducible rfl)
  try simp only [Act.put, List.setIfInBounds_toArray, List.set_cons_zero, List.set_cons_succ]
  refine wpAnyH_take (i := 12) (oi := ⟨some 19, _, _, _, _, _⟩) (v := ?v13) rfl (by kernel_rfl) (by kernel_rfl) (by kernel_rfl) (fun _ _ _ h => h) (Or.inl ⟨by rfl, ?hy13⟩) (by assumption) ?rest13
  case hy13 => (intro wz hSw; (try dsimp only at hSw); go_simp <;> with_reducible rfl)
  try simp only [Act.put, List.setIfInBounds_toArray, List.set_cons_zero, List.set_cons_succ]
  refine wpAnyH_take (i := 13) (oi := ⟨some 20, _, _, _, _, _⟩) (v := ?v14) rfl (by kernel_rfl) (by kernel_rfl) (by kernel_rfl) (fun _ _ _ h => h) (Or.inl ⟨by rfl, ?hy14⟩) (by assumption) ?rest14
  case hy14 => (intro wz hSw; (try dsimp only at hSw); go_simp <;> with_reducible rfl)
  try simp only [Act.put, List.setIfInBounds_toArray, List.set_cons_zero, List.set_cons_succ]
  refine wpAnyH_ready (rs := [14]) (by kernel_rfl) (by simp) ?_
  refine AllReadyH.cons (o := ⟨some 21, _, _, _, _, _⟩) rfl (fun K hK => ?_) AllReadyH.nil
  go_simp
  refine hK.out _ _ (HS0.out _ ((below_alloc _ _).drew)) (fun hHeld => ?_)
  clear hK K hHold
  have hHold := hHeld
  clear hHeld hmk
  refine wpAnyH_take (i := 15) (oi := ⟨some 22, _, _, _, _, _⟩) (v := ?v16) rfl (by kernel_rfl) (by kernel_rfl) (by kernel_rfl) (fun _ _ _ h => h) (Or.inl ⟨by rfl, ?hy16⟩) (by assumption) ?rest16
  case hy16 => (intro wz hSw; (try dsimp only at hSw); go_simp <;> with_reducible rfl)
  try simp only [Act.put, List.setIfInBounds_toArray, List.set_cons_zero, List.set_cons_succ]
  refine wpAnyH_ready (rs := [16]) (by kernel_rfl) (by simp) ?_
  refine AllReadyH.cons (o := ⟨some 23, _, _, _, _, _⟩) rfl (fun K hK => ?_) AllReadyH.nil
  go_simp
  refine hK.out _ _ (HS0.out _ (((below_alloc _ _).alloc (by simp) _).drew)) (fun hHeld => ?_)
  clear hK K hHold
  have hHold := hHeld
  clear hHeld
  refine wpAnyH_take (i := 17) (oi := ⟨some 5, _, _, _, _, _⟩) (v := ?v18) rfl (by kernel_rfl) (by kernel_rfl) (by kernel_rfl) (fun _ _ _ h => h) (Or.inl ⟨by rfl, ?hy18⟩) (by assumption) ?rest18
  case hy18 => (intro wz hSw; (try dsimp only at hSw); go_simp <;> with_reducible rfl)
  try simp only [Act.put, List.setIfInBounds_toArray, List.set_cons_zero, List.set_cons_succ]
  refine wpAnyH_done (by kernel_rfl) ?_ _
  obtain ⟨w1, hw1⟩ : ∃ w1, w1 = (((w.alloc (.cells #[.slice (some ⟨b, off, none⟩) u.n cap] 31)).alloc (.cells (madeCells #[.int .i64 0] (u.fn f).vn) 3)).alloc (.cells (scB (fun _ => .nilFunc) (w.heap.size + 1) u f (some ⟨b, off, none⟩) cap (fas f)) 215)).drew := ⟨_, rfl⟩
  have HO1 : Hid (OwnB w1 (w.heap.size + 1 + 1) (scB (mvK (w.heap.size + 1 + 1) 0) (w.heap.size + 1) u f (some ⟨b, off, none⟩) cap (fas f))) := by
    show OwnB _ _ _
    have h := OwnB.new ((w.alloc (.cells #[.slice (some ⟨b, off, none⟩) u.n cap] 31)).alloc (.cells (madeCells #[.int .i64 0] (u.fn f).vn) 3)) (scB (fun _ => .nilFunc) (w.heap.size + 1) u f (some ⟨b, off, none⟩) cap (fas f)) 215
    rw [show ((w.alloc (.cells #[.slice (some ⟨b, off, none⟩) u.n cap] 31)).alloc (.cells (madeCells #[.int .i64 0] (u.fn f).vn) 3)).heap.size = w.heap.size + 1 + 1 by simp] at h
    rw [hw1]
    exact h
  have HR1 : Hid (CRow w1 (w.heap.size + 1) (u.fn f).vn (cnt [])) := by
    have h := (rowMade (w.alloc (.cells #[.slice (some ⟨b, off, none⟩) u.n cap] 31)) (.int .i64 0) 3 (n := (u.fn f).vn) (b := w.heap.size + 1) (by simp)).alloc (.cells (scB (fun _ => .nilFunc) (w.heap.size + 1) u f (some ⟨b, off, none⟩) cap (fas f)) 215)
    rw [hw1]
    exact h
  have HB1 : Hid (Below w.heap.size w w1) := by show Below _ _ _; rw [hw1]; exact (below_alloc3 _ _ _ _).drew
  simp only [scB] at hw1
  rw [← hw1]
  clear hw1 hHold d0 d1 d2 d3 d4 d5 d6 HS0
  have hmf : ∀ (fn : Fn) (first cap : Array Value) (w : World), (Instr.makeFunc fn first cap).run Tryz.prog w = .ok (.func fn first cap) w := fun _ _ _ _ => rfl
  go_wp2_with fail
  go_loopw [24] (fun i wr => ∃ (k : Nat), k ≤ 39 ∧ i = .int .i64 k ∧ Hid (OwnB wr (w.heap.size + 1 + 1) (scB (mvK (w.heap.size + 1 + 1) k) (w.heap.size + 1) u f (some ⟨b, off, none⟩) cap (fas f))) ∧ Hid (TOnly (w.heap.size + 1 + 1) w1 wr)) (fun i _ => 39 - (intOf i).toNat)
  case atStart => exact ⟨0, Nat.zero_le _, rfl, HO1, TOnly.refl _ _⟩
  case round =>
    clear HO1
    obtain ⟨k, hk, rfl, HO, HTo⟩ := hrel
    by_cases hkn : k < 39
    · have g0 := HO.out.1.cell (9 + k) (scB_at _ _ _ _ _ _ _ k hkn)
      have z := HO.out.2
      have HO2 : Hid (OwnB (wr.setCell ⟨w.heap.size + 1 + 1, 9 + k, none⟩ (mvS (w.heap.size + 1 + 1) 126)) (w.heap.size + 1 + 1) (scB (mvK (w.heap.size + 1 + 1) (k + 1)) (w.heap.size + 1) u f (some ⟨b, off, none⟩) cap (fas f))) := by
        have h := HO.out.set (o := 9 + k) (by show 9 + k < 54; omega) (mvS (w.heap.size + 1 + 1) 126)
        rw [scB_set _ _ _ _ _ _ _ k hkn, scB_congr (fun j _ => mvK_succ (w.heap.size + 1 + 1) k j)] at h
        exact h
      go_wp2_with fail
      go_roundw
      case rel => exact ⟨k + 1, by omega, by go_num, HO2, HTo.out.set _ _⟩
      case measure => simp [intOf]; omega
    · obtain rfl : k = 39 := by omega
      have z := HO.out.2
      have q1 := HO.out.1.cell 10 rfl
      have q2 := HO.out.1.cell 11 rfl
      have q6 := HO.out.1.cell 15 rfl
      have q7 := HO.out.1.cell 16 rfl
      have q8 := HO.out.1.cell 17 rfl
      have q12 := HO.out.1.cell 21 rfl
      have q9 := HO.out.1.cell 18 rfl
      have q10 := HO.out.1.cell 19 rfl
      have q26 := HO.out.1.cell 35 rfl
      have q27 := HO.out.1.cell 36 rfl
      have q36 := HO.out.1.cell 45 rfl
      have q37 := HO.out.1.cell 46 rfl
      go_wp2_with fail
      go_ret
      have HTo2 := ((((((((((((HTo.out.set 10 (mvS (w.heap.size + 1 + 1) 127)).set 11 (mvS (w.heap.size + 1 + 1) 128)).set 15 (mvS (w.heap.size + 1 + 1) 129)).set 16 (mvS (w.heap.size + 1 + 1) 129)).set 17 (mvS (w.heap.size + 1 + 1) 129)).set 21 (mvS (w.heap.size + 1 + 1) 130)).set 18 (mvS (w.heap.size + 1 + 1) 131)).set 19 (mvS (w.heap.size + 1 + 1) 131)).set 35 (mvS (w.heap.size + 1 + 1) 132)).set 36 (mvS (w.heap.size + 1 + 1) 133)).set 45 (mvS (w.heap.size + 1 + 1) 134)).set 46 (mvS (w.heap.size + 1 + 1) 135))
      refine ⟨w.heap.size + 1 + 1, w.heap.size + 1, rfl, ?_, World.rowIs.of_block HR1.out (HTo2.block (w.heap.size + 1) (by omega)), World.ownsRow_nil _ _ _ _, (fun v hv => absurd hv (by simp)), by show w.heap.size + 1 + 1 ≠ w.heap.size + 1; omega, (fun e => by cases e), (fun e => by cases e), by show w.heap.size ≤ w.heap.size + 1 + 1; omega, by show w.heap.size ≤ w.heap.size + 1; omega, ?_⟩
      · have h := own12 HO.out rfl (mvS (w.heap.size + 1 + 1) 127) (mvS (w.heap.size + 1 + 1) 128) (mvS (w.heap.size + 1 + 1) 129) (mvS (w.heap.size + 1 + 1) 129) (mvS (w.heap.size + 1 + 1) 129) (mvS (w.heap.size + 1 + 1) 130) (mvS (w.heap.size + 1 + 1) 131) (mvS (w.heap.size + 1 + 1) 131) (mvS (w.heap.size + 1 + 1) 132) (mvS (w.heap.size + 1 + 1) 133) (mvS (w.heap.size + 1 + 1) 134) (mvS (w.heap.size + 1 + 1) 135)
        rw [scB_done] at h
        exact h
      · exact HB1.out.trans ⟨HTo2.same.1, HTo2.same.2.1, HTo2.same.2.2, by rw [HTo2.size]; exact Nat.le_refl _, fun k hk => HTo2.block k (by omega)⟩
end Go.Proofs.YtdialodjllpgaaaGreatDoor

/-! The program's scopes: what is declared twice. -/
namespace Go.Proofs.YtdialodjllpgaaaGreatDoor
open Go.RowKit
attribute [local go_sem] run_store_float
attribute [local go_sem ↓] Go.wp_at_zero Go.wp_at_succ

/-- what is noted up to ref j of node m -/
def BadR (d : FD) (m b : Nat) : Prop := ¬ (InR ((d.nd m).r b) d.vn ∧ ¬ SeenV d m b ((d.nd m).r b))
def NoteE (u : UD) (f m j : Nat) (y : FT) : Prop := (∃ x, x < m ∧ NoteD u f x y) ∨ (y = ⟨6, f, m⟩ ∧ DeclK ((u.fn f).nd m).k ∧ ∃ b, b < j ∧ BadR (u.fn f) m b)
theorem noteE_zero (u : UD) (f : Nat) (y : FT) : ¬ NoteE u f 0 0 y := by
  rintro (⟨x, h, _⟩ | ⟨_, _, b, h, _⟩) <;> omega
theorem noteE_yes {u : UD} {f m j : Nat} (hd : DeclK ((u.fn f).nd m).k) (hb : BadR (u.fn f) m j) (y : FT) : NoteE u f m (j + 1) y ↔ NoteE u f m j y ∨ y = ⟨6, f, m⟩ := by
  constructor
  · rintro (h | ⟨h, _⟩)
    · exact .inl (.inl h)
    · exact .inr h
  · rintro ((h | ⟨h1, h2, b, h3, h4⟩) | h)
    · exact .inl h
    · exact .inr ⟨h1, h2, b, by omega, h4⟩
    · exact .inr ⟨h, hd, j, by omega, hb⟩
theorem noteE_no {u : UD} {f m j : Nat} (hb : ¬ BadR (u.fn f) m j) (y : FT) : NoteE u f m (j + 1) y ↔ NoteE u f m j y := by
  constructor
  · rintro (h | ⟨h1, h2, b, h3, h4⟩)
    · exact .inl h
    · by_cases e : b = j
      · subst e; exact absurd h4 hb
      · exact .inr ⟨h1, h2, b, by omega, h4⟩
  · rintro (h | ⟨h1, h2, b, h3, h4⟩)
    · exact .inl h
    · exact .inr ⟨h1, h2, b, by omega, h4⟩
theorem noteD_iff {u : UD} {f m : Nat} (y : FT) : NoteD u f m y ↔ (y = ⟨6, f, m⟩ ∧ DeclK ((u.fn f).nd m).k ∧ ∃ b, b < ((u.fn f).nd m).rn ∧ BadR (u.fn f) m b) := by
  constructor
  · rintro ⟨h1, h2, h3, h4, b, h5, h6⟩
    exact ⟨FT.ext h1 h2 h3, h4, b, h5, h6⟩
  · rintro ⟨rfl, h4, b, h5, h6⟩
    exact ⟨rfl, rfl, rfl, h4, b, h5, h6⟩
theorem noteE_next {u : UD} {f m : Nat} (y : FT) : NoteE u f m ((u.fn f).nd m).rn y ↔ NoteE u f (m + 1) 0 y := by
  constructor
  · rintro (⟨x, h, h'⟩ | h)
    · exact .inl ⟨x, by omega, h'⟩
    · exact .inl ⟨m, by omega, (noteD_iff y).2 h⟩
  · rintro (⟨x, h, h'⟩ | ⟨_, _, b, h, _⟩)
    · by_cases e : x = m
      · subst e; exact .inr ((noteD_iff y).1 h')
      · exact .inl ⟨x, by omega, h'⟩
    · omega
theorem noteE_plain {u : UD} {f m : Nat} (hd : ¬ DeclK ((u.fn f).nd m).k) (y : FT) : NoteE u f m 0 y ↔ NoteE u f (m + 1) 0 y := by
  constructor
  · rintro (⟨x, h, h'⟩ | ⟨_, _, b, h, _⟩)
    · exact .inl ⟨x, by omega, h'⟩
    · omega
  · rintro (⟨x, h, h'⟩ | ⟨_, _, b, h, _⟩)
    · by_cases e : x = m
      · subst e; exact absurd h'.2.2.2.1 hd
      · exact .inl ⟨x, by omega, h'⟩
    · omega
theorem noteE_all {u : UD} {f n : Nat} (y : FT) : NoteE u f n 0 y ↔ ∃ x, x < n ∧ NoteD u f x y := by
  constructor
  · rintro (h | ⟨_, _, b, h, _⟩)
    · exact h
    · omega
  · exact .inl
noncomputable def dcK (k : Int) : Bool := dB (DeclK k)
theorem setDc (k : Int) : setB 4484 k = dcK k := by
  have h := setB_as 4484 (by decide) (fun k => k == 2 || k == 7 || k == 8 || k == 12) (by decide) (fun k h => by simp at h; omega) k
  rw [h]
  unfold dcK
  by_cases c : DeclK k
  · rw [dB_true c]
    unfold DeclK at c
    simp
    omega
  · rw [dB_false c]
    unfold DeclK at c
    simp
    omega

/-- a store into a block that is elsewhere -/
theorem SS.far {C : CX} {st : List Int} {ins : Nat} {x : FT} {a : Option Addr} {cap : Nat} {w : World} (h : SS C st ins x a cap w) {B : Nat} (h0 : C.w0.heap.size ≤ B) (h1 : B ≠ C.S) (h2 : B ≠ C.T) (h3 : bkOf a ≠ some B) (o : Nat) (v : Value) : SS C st ins x a cap (w.setCell ⟨B, o, none⟩ v) := by
  have hk : ∀ k, k ≠ B → (w.setCell ⟨B, o, none⟩ v).heap[k]? = w.heap[k]? := fun k hk => Below.heap_setCell w ⟨B, o, none⟩ v k hk
  exact ⟨h.box.block (by simp) (hk _ (Ne.symm h1)), World.rowIs.of_block h.tm (hk _ (Ne.symm h2)), ownsRow_block h.sk (fun k e => hk k (fun c => h3 (c ▸ e))), h.rg, h.sT, h.sa, h.ta, h.nS, h.nT, frS h.b h0 _⟩
theorem Mv.new {S T : Nat} {a a' : Option Addr} {w w' : World} (h : Mv S T a w a' w') {B : Nat} (hB : w.heap.size ≤ B) (o : Nat) (v : Value) : Mv S T a w a' (w'.setCell ⟨B, o, none⟩ v) :=
  ⟨⟨h.kp.os, h.kp.tape, h.kp.output, by have := h.kp.size; simpa using this, fun k hk h1 h2 h3 => (Below.heap_setCell w' ⟨B, o, none⟩ v k (by show k ≠ B; omega)).trans (h.kp.block k hk h1 h2 h3)⟩, h.nw⟩
theorem SS.c6 {C : CX} {st : List Int} {ins : Nat} {x : FT} {a : Option Addr} {cap : Nat} {w : World} (h : SS C st ins x a cap w) : w.cell? ⟨C.S, 6, none⟩ = some (.slice C.fa.va C.d.vn C.fa.vc) := h.box.1.cell 6 rfl
theorem SS.c4 {C : CX} {st : List Int} {ins : Nat} {x : FT} {a : Option Addr} {cap : Nat} {w : World} (h : SS C st ins x a cap w) : w.cell? ⟨C.S, 4, none⟩ = some (.int .i64 C.d.params) := h.box.1.cell 4 rfl

/-- the row of what is declared, and the state beside it -/
structure DT (C : CX) (st : List Int) (ins : Nat) (D m j : Nat) (x : FT) (a : Option Addr) (cap : Nat) (w : World) : Prop where
  ss : SS C st ins x a cap w
  row : SeenRow w D C.d m j
  far : D ≠ C.S ∧ D ≠ C.T ∧ bkOf a ≠ some D
  ge : C.w0.heap.size ≤ D
  lt : D < w.heap.size
theorem DT.alloc {C : CX} {st : List Int} {ins : Nat} {D m j : Nat} {x : FT} {a : Option Addr} {cap : Nat} {w : World} (h : DT C st ins D m j x a cap w) (o : Obj) : DT C st ins D m j x a cap (w.alloc o) := ⟨h.ss.alloc o, h.row.below (below_alloc _ _), h.far, h.ge, by have := h.lt; simp; omega⟩
theorem DT.note {C : CX} {st : List Int} {ins : Nat} {D m j : Nat} {x : FT} {a : Option Addr} {cap : Nat} {w : World} (h : DT C st ins D m j x a cap w) {x' : FT} {w' : World} (hn : NotePost C st ins x' a cap w w') : DT C st ins D m j x' a cap w' :=
  ⟨hn.1, World.rowIs.of_block h.row (hn.2.kp.block D h.lt h.far.1 h.far.2.1 h.far.2.2), h.far, h.ge, Nat.lt_of_lt_of_le h.lt hn.2.kp.size⟩
theorem DT.same {C : CX} {st : List Int} {ins : Nat} {D m j m' j' : Nat} {x : FT} {a : Option Addr} {cap : Nat} {w : World} (h : DT C st ins D m j x a cap w) (e : ∀ v : Nat, SeenV C.d m j v ↔ SeenV C.d m' j' v) : DT C st ins D m' j' x a cap w := ⟨h.ss, h.row.congr e, h.far, h.ge, h.lt⟩
theorem DT.set {C : CX} {st : List Int} {ins : Nat} {D m j : Nat} {x : FT} {a : Option Addr} {cap : Nat} {w : World} (h : DT C st ins D m j x a cap w) {y : Nat} (hy : (C.d.nd m).r j = y) : DT C st ins D m (j + 1) x a cap (w.setCell ⟨D, y, none⟩ (.bool true)) := ⟨h.ss.far h.ge h.far.1 h.far.2.1 h.far.2.2 _ _, h.row.set hy, h.far, h.ge, by have := h.lt; simpa using this⟩
theorem DT.skip {C : CX} {st : List Int} {ins : Nat} {D m j : Nat} {x : FT} {a : Option Addr} {cap : Nat} {w : World} (h : DT C st ins D m j x a cap w) (e : ∀ v : Nat, v < C.d.vn → (C.d.nd m).r j = v → SeenV C.d m j v) : DT C st ins D m (j + 1) x a cap w := ⟨h.ss, World.rowIs.congr h.row fun i hi => by
  have h1 : SeenV C.d m (j + 1) i ↔ SeenV C.d m j i := by
    rw [seenV_succ]
    exact ⟨fun h => h.elim id (e i hi), .inl⟩
  by_cases c : SeenV C.d m j i
  · rw [dB_true c, dB_true (h1.2 c)]
  · rw [dB_false c, dB_false (fun c' => c (h1.1 c'))], h.far, h.ge, h.lt⟩
end Go.Proofs.YtdialodjllpgaaaGreatDoor

/-! The program's scopes: what is declared twice, walked. -/
namespace Go.Proofs.YtdialodjllpgaaaGreatDoor
open Go.RowKit
attribute [local go_sem] run_store_float
attribute [local go_sem ↓] Go.wp_at_zero Go.wp_at_succ

set_option maxRecDepth 100000 in
set_option maxHeartbeats 4000000 in
theorem declaredTwice_calls (C : CX) (hC : C.ok) (hvn : C.d.vn ≤ 200) (hpp : 0 ≤ C.d.params ∧ C.d.params ≤ C.d.vn) (st : List Int) (ins : Nat) (x : FT) (a : Option Addr) (cap : Nat) (P : FT → Prop) (w : World) (hS : SS C st ins x a cap w) (hL : Least P x) :
    Calls Tryz.prog 138 #[.pointer (some ⟨C.S, 0, none⟩)] w fun e w' => e = .returned (.tuple #[]) ∧ VPost C st ins (fun y => P y ∨ ∃ z, z < C.d.nn ∧ NoteD C.u C.f z y) a w w' := by
  have HS : Hid (SS C st ins x a cap w) := hS
  have HL : Hid (Least P x) := hL
  have HC : Hid C.ok := hC
  have hnn := hC.nn
  obtain ⟨p, hp⟩ : ∃ p : Nat, C.d.params = p := ⟨C.d.params.toNat, by omega⟩
  have hpn : p ≤ C.d.vn := by omega
  have HPp : Hid (C.d.params = p) := hp
  have c6 := hS.c6
  have c4 := hS.c4
  have c8 := hS.c8
  have hlt := hS.lt
  rw [hp] at c4
  obtain ⟨o1, o2, o3⟩ := hS.other (Nat.le_refl w.heap.size)
  have HO : Hid (w.heap.size ≠ C.S ∧ w.heap.size ≠ C.T ∧ bkOf a ≠ some w.heap.size) := ⟨o1, o2, o3⟩
  have hge : C.w0.heap.size ≤ w.heap.size := hS.b.size
  clear hS hL hC hp hpp o1 o2 o3
  have hmk := fun v => run_make_row' (P := Tryz.prog) 217 4 (.bool false) 1 Tryz.underlying217 infoBool rfl .i64 .i64 C.d.vn (by omega) (by omega) v
  go_enter Tryz.func138, Tryz.ntmps138
  go_wp2_with fail
  clear hmk
  obtain ⟨w1, hw1⟩ : ∃ w1, w1 = w.alloc (.cells (madeCells #[.bool false] C.d.vn) 4) := ⟨_, rfl⟩
  have HS1 : Hid (SS C st ins x a cap w1) := by show SS _ _ _ _ _ _ _; rw [hw1]; exact HS.out.alloc _
  have HM1 : Hid (Mv C.S C.T a w a w1) := by show Mv _ _ _ _ _ _; rw [hw1]; exact (Mv.refl _ _ _ _).alloc _
  have HR1 : Hid (w1.rowIs w.heap.size 4 C.d.vn (fun i => .bool (decide (i < 0)))) := by
    show World.rowIs _ _ _ _ _
    rw [hw1]
    exact rowMade w (.bool false) 4 rfl
  rw [← hw1]
  clear hw1 c6 c4 c8 hlt
  go_loopw [20] (fun i wr => ∃ (k : Nat), k ≤ p ∧ i = .int .i64 k ∧ Hid (SS C st ins x a cap wr) ∧ Hid (wr.rowIs w.heap.size 4 C.d.vn (fun i => .bool (decide (i < k)))) ∧ Hid (Mv C.S C.T a w a wr)) (fun i _ => p - (intOf i).toNat)
  case atStart => exact ⟨0, Nat.zero_le _, rfl, HS1, HR1, HM1⟩
  case round =>
    clear HS1 HR1 HM1
    obtain ⟨k, hk, rfl, HSk, HRk, HMk⟩ := hrel
    by_cases hkp : k < p
    · have r0 := World.rowIs.cell HRk.out (i := k) (by omega)
      have rz := World.rowIs.frozen HRk.out
      have HR2 : Hid ((wr.setCell ⟨w.heap.size, k, none⟩ (.bool true)).rowIs w.heap.size 4 C.d.vn (fun i => .bool (decide (i < k + 1)))) := (World.rowIs.set HRk.out k _).congr fun i _ => by
        by_cases e : i = k
        · subst e
          rw [if_pos rfl, decide_eq_true (by omega)]
        · rw [if_neg e]
          by_cases c : i < k
          · rw [decide_eq_true c, decide_eq_true (by omega)]
          · rw [decide_eq_false c, decide_eq_false (by omega)]
      have HS2 : Hid (SS C st ins x a cap (wr.setCell ⟨w.heap.size, k, none⟩ (.bool true))) := HSk.out.far hge HO.out.1 HO.out.2.1 HO.out.2.2 _ _
      have HM2 : Hid (Mv C.S C.T a w a (wr.setCell ⟨w.heap.size, k, none⟩ (.bool true))) := HMk.out.new (Nat.le_refl _) _ _
      go_wp2_with fail
      go_roundw
      case rel => exact ⟨k + 1, by omega, by go_num, HS2, HR2, HM2⟩
      case measure => simp [intOf]; omega
    · obtain rfl : k = p := by omega
      have HD1 : Hid (DT C st ins w.heap.size 0 0 x a cap wr) := ⟨HSk.out, World.rowIs.congr HRk.out fun i _ => by
        have h := seen_first HPp.out i
        by_cases c : i < k
        · rw [decide_eq_true c, dB_true (h.1 c)]
        · rw [decide_eq_false c, dB_false (fun h' => c (h.2 h'))], HO.out, hge, World.rowIs.lt HRk.out⟩
      have c8 := HSk.out.c8
      clear HSk HRk
      have HMw := HMk
      go_wp2_with fail
      clear c8 HMk
      go_loopw [33] (fun i wr => ∃ (m : Nat) (x' : FT), m ≤ C.d.nn ∧ i = .int .i64 m ∧ Hid (DT C st ins w.heap.size m 0 x' a cap wr) ∧ Hid (Least (fun y => P y ∨ NoteE C.u C.f m 0 y) x') ∧ Hid (Mv C.S C.T a w a wr)) (fun i _ => C.d.nn - (intOf i).toNat)
      case atStart => exact ⟨0, x, Nat.zero_le _, rfl, HD1, HL.out.congr fun y => ⟨.inl, fun h => h.resolve_right (noteE_zero _ _ _)⟩, HMw⟩
      case round =>
        clear HD1 HMw
        obtain ⟨m, x', hm, rfl, HD, HLm, HM⟩ := hrel
        by_cases hmn : m < C.d.nn
        · obtain ⟨b, off, e0, _, hb, d0, d1, d2, d3, d4, d5, d6, d7⟩ := cells8 ((HD.out.ss.fns HC.out).2 C.f HC.out.f).2.2.1 hmn
          rw [show C.fas C.f = C.fa from rfl] at e0
          rw [e0]
          have hset : setB 4484 ((C.u.fn C.f).nd m).k = dcK ((C.u.fn C.f).nd m).k := setDc _
          have hrn := HC.out.rn hmn
          obtain ⟨b2, o2, e2⟩ : ∃ b2 o2, 0 < (C.d.nd m).rn → (C.fa.nas m).ra = some ⟨b2, o2, none⟩ := by
            by_cases c : 0 < (C.d.nd m).rn
            · obtain ⟨b2, o2, e2, _⟩ := (((HD.out.ss.fns HC.out).2 C.f HC.out.f).2.2.2 m hmn).1 c
              exact ⟨b2, o2, fun _ => e2⟩
            · exact ⟨0, 0, fun h => absurd h c⟩
          have HE2 : Hid (0 < (C.d.nd m).rn → (C.fa.nas m).ra = some ⟨b2, o2, none⟩) := e2
          have HD2 : Hid (DT C st ins w.heap.size m 0 x' a cap (wr.alloc (.cells (nodeC ((C.u.fn C.f).nd m) ((C.fas C.f).nas m)) 95))) := HD.out.alloc _
          have HM2 : Hid (Mv C.S C.T a w a (wr.alloc (.cells (nodeC ((C.u.fn C.f).nd m) ((C.fas C.f).nas m)) 95))) := HM.out.alloc _
          clear e2
          rename World => wa
          by_cases hdk : DeclK ((C.u.fn C.f).nd m).k
          · rw [show dcK ((C.u.fn C.f).nd m).k = true from dB_true hdk] at hset
            have HDK : Hid (DeclK ((C.u.fn C.f).nd m).k) := hdk
            clear hdk e0
            go_wp2_with (go_at_call 121; refine (has_calls 4484 (by decide) _ _).mono ?_; rw [hset]; rintro e w2 ⟨rfl, rfl⟩)
            clear d0 d1 d2 d3 d4 d5 d6 d7 hset HD HM
            go_loopw [45] (fun i wr => ∃ (j : Nat) (x'' : FT), j ≤ (C.d.nd m).rn ∧ i = .int .i64 j ∧ Hid (DT C st ins w.heap.size m j x'' a cap wr) ∧ Hid (Least (fun y => P y ∨ NoteE C.u C.f m j y) x'') ∧ Hid (Mv C.S C.T a w a wr)) (fun i _ => (C.d.nd m).rn - (intOf i).toNat)
            case atStart => exact ⟨0, x', Nat.zero_le _, rfl, HD2, HLm, HM2⟩
            case round =>
              clear HD2 HM2 HLm
              obtain ⟨j, x'', hj, rfl, HDj, HLj, HMj⟩ := hrel
              by_cases hjn : j < (C.d.nd m).rn
              · obtain ⟨b3, o3, e3, _, hb3, g0⟩ := cells1 (((HDj.out.ss.fns HC.out).2 C.f HC.out.f).2.2.2 m hmn).1 hjn
                rw [e3]
                have HR : Hid (((C.u.fn C.f).nd m).r j = (C.d.nd m).r j) := rfl
                clear e3
                by_cases hin : InR ((C.d.nd m).r j) C.d.vn
                · have hw : wiB ((C.d.nd m).r j) (C.d.vn : Int) = true := by unfold wiB; have := hin.1; have := hin.2; simp; omega
                  obtain ⟨y, hy⟩ : ∃ y : Nat, (C.d.nd m).r j = y := ⟨((C.d.nd m).r j).toNat, by have := hin.1; omega⟩
                  have hyn : y < C.d.vn := by have := hin.2; omega
                  have HY : Hid ((C.d.nd m).r j = (y : Int)) := hy
                  have HI : Hid (InR ((C.d.nd m).r j) C.d.vn) := hin
                  rw [show ((C.u.fn C.f).nd m).r j = (y : Int) from hy] at g0
                  rw [hy] at hw
                  clear hy hin
                  have r0 := World.rowIs.cell HDj.out.row (i := y) hyn
                  have rz := World.rowIs.frozen HDj.out.row
                  by_cases hsn : SeenV C.d m j y
                  · rw [dB_true hsn] at r0
                    have HB : Hid (BadR (C.u.fn C.f) m j) := fun h => h.2 (by rw [show ((C.u.fn C.f).nd m).r j = (y : Int) from HY.out]; exact hsn)
                    have HV : Hid (∀ v : Nat, v < C.d.vn → (C.d.nd m).r j = v → SeenV C.d m j v) := fun v _ hv => by rw [← hv, HY.out]; exact hsn
                    clear hsn
                    go_wp2_with (first | (go_at_call 139; refine (within_calls _ _ _).mono ?_; rw [hw]; rintro e w2 ⟨rfl, rfl⟩) | (go_at_call 162; refine (note_calls C st ins x'' a cap 6 m _ HDj.out.ss).mono ?_; rintro e w3 ⟨rfl, hn3⟩; have HN3 : Hid (NotePost C st ins (fstOf x'' ⟨6, C.f, m⟩) a cap _ w3) := hn3; clear hn3))
                    go_roundw
                    case rel => exact ⟨j + 1, _, by omega, by go_num, (HDj.out.note HN3.out).skip HV.out, (HLj.out.note (b := ⟨6, C.f, m⟩) (by show (0 : Nat) < 6; omega)).congr fun y => by rw [noteE_yes HDK.out HB.out, or_assoc], HMj.out.trans HN3.out.2⟩
                    case measure => simp [intOf]; omega
                  · rw [dB_false hsn] at r0
                    have HB : Hid (¬ BadR (C.u.fn C.f) m j) := fun h => h ⟨HI.out, by rw [show ((C.u.fn C.f).nd m).r j = (y : Int) from HY.out]; exact hsn⟩
                    clear hsn
                    go_wp2_with (go_at_call 139; refine (within_calls _ _ _).mono ?_; rw [hw]; rintro e w2 ⟨rfl, rfl⟩)
                    go_roundw
                    case rel => exact ⟨j + 1, x'', by omega, by go_num, HDj.out.set HY.out, HLj.out.congr fun y => by rw [noteE_no HB.out], HMj.out.new (Nat.le_refl _) _ _⟩
                    case measure => simp [intOf]; omega
                · have hw : wiB (((C.u.fn C.f).nd m).r j) (C.d.vn : Int) = false := by
                    have h : ¬ InR (((C.u.fn C.f).nd m).r j) C.d.vn := hin
                    unfold wiB InR at *
                    simp
                    omega
                  have HB : Hid (BadR (C.u.fn C.f) m j) := fun h => hin h.1
                  have HV : Hid (∀ v : Nat, v < C.d.vn → (C.d.nd m).r j = v → SeenV C.d m j v) := fun v hv he => absurd (⟨by omega, by omega⟩ : InR ((C.d.nd m).r j) C.d.vn) hin
                  clear hin
                  go_wp2_with (first | (go_at_call 139; refine (within_calls _ _ _).mono ?_; rw [hw]; rintro e w2 ⟨rfl, rfl⟩) | (go_at_call 162; refine (note_calls C st ins x'' a cap 6 m _ HDj.out.ss).mono ?_; rintro e w3 ⟨rfl, hn3⟩; have HN3 : Hid (NotePost C st ins (fstOf x'' ⟨6, C.f, m⟩) a cap _ w3) := hn3; clear hn3))
                  go_roundw
                  case rel => exact ⟨j + 1, _, by omega, by go_num, (HDj.out.note HN3.out).skip HV.out, (HLj.out.note (b := ⟨6, C.f, m⟩) (by show (0 : Nat) < 6; omega)).congr fun y => by rw [noteE_yes HDK.out HB.out, or_assoc], HMj.out.trans HN3.out.2⟩
                  case measure => simp [intOf]; omega
              · obtain rfl : j = (C.d.nd m).rn := by omega
                go_wp2_with fail
                go_roundw
                case rel => exact ⟨m + 1, x'', by omega, by go_num, HDj.out.same (fun v => by rw [seenV_next, seenV_all]; exact ⟨fun h => h.elim .inl fun h => .inr ⟨HDK.out, h⟩, fun h => h.elim .inl fun h => .inr h.2⟩), HLj.out.congr fun y => or_congr Iff.rfl (noteE_next y), HMj⟩
                case measure => simp [intOf]; omega
          · rw [show dcK ((C.u.fn C.f).nd m).k = false from dB_false hdk] at hset
            have HDK : Hid (¬ DeclK ((C.u.fn C.f).nd m).k) := hdk
            clear hdk e0
            go_wp2_with (go_at_call 121; refine (has_calls 4484 (by decide) _ _).mono ?_; rw [hset]; rintro e w2 ⟨rfl, rfl⟩)
            go_roundw
            case rel => exact ⟨m + 1, x', by omega, by go_num, HD2.out.same (fun v => by rw [seenV_next]; exact ⟨.inl, fun h => h.resolve_right fun h => HDK.out h.1⟩), HLm.out.congr fun y => or_congr Iff.rfl (noteE_plain HDK.out y), HM2⟩
            case measure => simp [intOf]; omega
        · obtain rfl : m = C.d.nn := by omega
          go_wp2_with fail
          go_end0
          exact ⟨rfl, x', a, cap, HD.out.ss, HLm.out.congr fun y => by rw [noteE_all], HM.out⟩
end Go.Proofs.YtdialodjllpgaaaGreatDoor

/-! The program's scopes: the faults of a fn. -/
namespace Go.Proofs.YtdialodjllpgaaaGreatDoor
open Go.RowKit
attribute [local go_sem] run_store_float
attribute [local go_sem ↓] Go.wp_at_zero Go.wp_at_succ

theorem firstV_succ (k : Nat) : firstV (k + 1) = firstV k ++ [(k : Int)] := by unfold firstV; rw [List.range_succ, List.map_append]; rfl
theorem firstV_len (k : Nat) : (firstV k).length = k := by simp [firstV]
theorem vrN_one {k vn : Nat} (h : k < vn) : vrN (fun _ => (k : Int)) vn 1 = [(k : Int)] := by
  rw [vrN_yes (j := 0) ⟨by omega, by omega⟩, vrN_zero]
  rfl
theorem FarI.one {C : CX} {st : List Int} {ins : Nat} {x : FT} {a : Option Addr} {cap : Nat} {w : World} (h : SS C st ins x a cap w) (k : Nat) : FarI C a (w.alloc (.cells #[.int .i64 (k : Int)] 3)) (some ⟨w.heap.size, 0, none⟩) 1 (fun _ => (k : Int)) := by
  refine ⟨fun _ => ⟨w.heap.size, 0, rfl, Nat.zero_le _, by simp, fun i hi j hj => ?_⟩, fun _ b off e => ?_⟩
  · obtain rfl : i = 0 := by omega
    obtain rfl : j = 0 := by omega
    simp
  · cases e
    exact h.other (Nat.le_refl _)
def FaultsPost (C : CX) (e : Ending) (w' : World) : Prop := ∃ x, e = .returned (ftV x) ∧ Least (NoteF C.u C.f) x ∧ Below C.w0.heap.size C.w0 w'

set_option maxRecDepth 100000 in
set_option maxHeartbeats 4000000 in
theorem faults_calls (C : CX) (hC : C.ok) (hvn : C.d.vn ≤ 200) (hpp : 0 ≤ C.d.params ∧ C.d.params ≤ C.d.vn) (w : World) (hS : SS C [] 0 ft0 none 0 w) :
    Calls Tryz.prog 79 #[.pointer (some ⟨C.S, 0, none⟩)] w fun e w' => FaultsPost C e w' := by
  have HS : Hid (SS C [] 0 ft0 none 0 w) := hS
  have HC : Hid C.ok := hC
  have hnn := hC.nn
  obtain ⟨p, hp⟩ : ∃ p : Nat, C.d.params = p := ⟨C.d.params.toNat, by omega⟩
  have hpn : p ≤ C.d.vn := by omega
  have HPp : Hid (C.d.params = p) := hp
  have HPQ : Hid (0 ≤ C.d.params ∧ C.d.params ≤ C.d.vn) := hpp
  have c4 := hS.c4
  have hlt := hS.lt
  rw [hp] at c4
  have HO : Hid (w.heap.size ≠ C.S ∧ w.heap.size ≠ C.T ∧ bkOf none ≠ some w.heap.size) := hS.other (Nat.le_refl w.heap.size)
  have HGE : Hid (C.w0.heap.size ≤ w.heap.size) := hS.b.size
  clear hS hC hp hpp
  go_enter Tryz.func79, Tryz.ntmps79
  go_wp2_with fail
  obtain ⟨w1, hw1⟩ : ∃ w1, w1 = w.alloc (.cells #[.int .i64 0, .int .i64 0, .int .i64 0] 59) := ⟨_, rfl⟩
  have HS1 : Hid (SS C [] 0 ft0 none 0 w1) := by show SS _ _ _ _ _ _ _; rw [hw1]; exact HS.out.alloc _
  have HR1 : Hid (w1.rowIs w.heap.size 59 3 (fun _ => .int .i64 0)) := by
    show World.rowIs _ _ _ _ _
    rw [hw1]
    exact World.rowIs_alloc w #[.int .i64 0, .int .i64 0, .int .i64 0] 59 (fun _ => .int .i64 0) (fun i hi => by
      have : i = 0 ∨ i = 1 ∨ i = 2 := by simp at hi; omega
      rcases this with rfl | rfl | rfl <;> rfl)
  have hl1 : w.heap.size < w1.heap.size := World.rowIs.lt HR1.out
  rw [← hw1]
  clear hw1 c4 hlt
  go_loopw [9] (fun i wr => ∃ (k : Nat) (a' : Option Addr) (cap' : Nat), k ≤ p ∧ i = .int .i64 k ∧ Hid (SS C (firstV k) 0 ft0 a' cap' wr) ∧ Hid (Mv C.S C.T none w1 a' wr)) (fun i _ => p - (intOf i).toNat)
  case atStart => exact ⟨0, none, 0, Nat.zero_le _, rfl, HS1, Mv.refl _ _ _ _⟩
  case round =>
    obtain ⟨k, a', cap', hk, rfl, HSk, HMk⟩ := hrel
    by_cases hkp : k < p
    · have HV : Hid (vrN (fun _ => (k : Int)) C.d.vn 1 = [(k : Int)]) := vrN_one (by omega)
      go_wp2_with (go_at_call 136; refine (declareS_calls C (firstV k) 0 ft0 a' cap' _ 1 1 (fun _ => (k : Int)) _ (by omega) (by rw [firstV_len]; omega) (HSk.out.alloc _) (FarI.one HSk.out k)).mono ?_; rintro e w9 ⟨rfl, ⟨a9, cap9, hs9, hm9⟩⟩; rw [HV.out, ← firstV_succ] at hs9; have HS9 : Hid (SS C (firstV (k + 1)) 0 ft0 a9 cap9 w9) := hs9; have HM9 : Hid (Mv C.S C.T a' _ a9 w9) := hm9; clear hs9 hm9)
      go_roundw
      case rel => exact ⟨k + 1, a9, cap9, by omega, by go_num, HS9, HMk.out.trans HM9.out.first⟩
      case measure => simp [intOf]; omega
    · obtain rfl : k = p := by omega
      have c8 := HSk.out.c8
      obtain ⟨q, hq⟩ : ∃ q : Nat, C.d.nn = q + 1 := ⟨C.d.nn - 1, by omega⟩
      have hroot : C.d.nn - 1 = q := by omega
      have HVP : Hid (VPre C q (firstV k) 0 ft0 a' cap' (fun _ => False) wr) := ⟨HSk.out, by omega, by rw [← hroot]; exact StackOk.root HC.out.tree HPp.out, ⟨fun h => absurd h (by omega), fun h => absurd (by rw [hroot]; exact h) (InL.root HC.out.tree)⟩, by rw [firstV_len]; omega, by omega, Least.zero (fun _ h => h)⟩
      have HLV : Hid (leaves C q = []) := by
        show leaves C q = []
        have h := HC.out.tree.last
        unfold leaves
        rw [← hroot, if_neg (by omega)]
      have HNT : Hid (∀ y, ((False ∨ NoteT C.u C.f q y) ∨ ∃ z, z < C.d.nn ∧ NoteD C.u C.f z y) ↔ NoteF C.u C.f y) := fun y => by
        rw [← hroot, show C.d.nn = (C.u.fn C.f).nn from rfl, noteT_root C.u C.f HC.out.tree]
        unfold NoteF
        constructor
        · rintro ((h | ⟨z, h1, h2⟩) | ⟨z, h1, h2⟩)
          · exact h.elim
          · exact ⟨z, h1, .inl h2⟩
          · exact ⟨z, h1, .inr h2⟩
        · rintro ⟨z, h1, h2 | h2⟩
          · exact .inl (.inr ⟨z, h1, h2⟩)
          · exact .inr ⟨z, h1, h2⟩
      rw [hq] at c8
      have HVA : Hid (VisSays C q) := visit_all C HC.out q (by omega)
      have hq3 : q < 3000 := by omega
      clear hq hroot
      go_wp2_with (first | (go_at_call 137; refine (HVA.out _ _ _ _ _ _ _ HVP.out).mono ?_; rintro e w7 ⟨rfl, ⟨x7, a7, cap7, hs7, hl7, hm7⟩⟩; rw [HLV.out, List.append_nil] at hs7; have HS7 : Hid (SS C (firstV k) 0 x7 a7 cap7 w7) := hs7; have HL7 : Hid (Least (fun y => False ∨ NoteT C.u C.f q y) x7) := hl7; have HM7 : Hid (Mv C.S C.T a' wr a7 w7) := hm7; clear hs7 hl7 hm7) | (go_at_call 138; refine (declaredTwice_calls C HC.out hvn HPQ.out (firstV k) 0 x7 a7 cap7 _ _ HS7.out HL7.out).mono ?_; rintro e w8 ⟨rfl, ⟨x8, a8, cap8, hs8, hl8, hm8⟩⟩; have HS8 : Hid (SS C (firstV k) 0 x8 a8 cap8 w8) := hs8; have HL8 : Hid (Least (NoteF C.u C.f) x8) := Least.congr hl8 HNT.out; have HM8 : Hid (Mv C.S C.T none w1 a8 w8) := (HMk.out.trans HM7.out).trans hm8; clear hs8 hl8 hm8; have c51 := HS8.out.c51; have c52 := HS8.out.c52; have c53 := HS8.out.c53; have HR8 : Hid (w8.rowIs w.heap.size 59 3 (fun _ => .int .i64 0)) := World.rowIs.of_block HR1.out (HM8.out.kp.block w.heap.size hl1 HO.out.1 HO.out.2.1 HO.out.2.2); have s0 := World.rowIs.cell HR8.out (i := 0) (by omega); have s1 := World.rowIs.cell HR8.out (i := 1) (by omega); have s2 := World.rowIs.cell HR8.out (i := 2) (by omega); have sz := World.rowIs.frozen HR8.out))
      refine bodyPost_ret (v := ftV x8) (by simp [results, Tryz.results79, go_sem, s0, s1, s2]) rfl ?_
      exact ⟨x8, rfl, HL8.out, frS (frS (frS HS8.out.b HGE.out _) HGE.out _) HGE.out _⟩
end Go.Proofs.YtdialodjllpgaaaGreatDoor

/-! The program's check of a unit: makers. -/
namespace Go.Proofs.YtdialodjllpgaaaGreatDoor
open Go.RowKit
attribute [local go_sem] run_store_float
attribute [local go_sem ↓] Go.wp_at_zero Go.wp_at_succ

set_option maxRecDepth 100000 in
set_option maxHeartbeats 4000000 in
theorem indexB_calls (B o n cap : Nat) (p : Nat → Bool) (w : World) (hn : n ≤ 1048576) (hT : ∀ i, i < n → w.cell? ⟨B, o + i, none⟩ = some (.bool (p i))) :
    Calls Tryz.prog 140 #[.slice (some ⟨B, o, none⟩) n cap, .bool false] w fun e w' => (∃ r : Int, e = .returned (.int .i64 r) ∧ ((r = -1 ∧ ∀ i, i < n → p i = true) ∨ ∃ i : Nat, r = i ∧ i < n ∧ p i = false ∧ ∀ j, j < i → p j = true)) ∧ w' = w := by
  have HT : Hid (∀ i, i < n → w.cell? ⟨B, o + i, none⟩ = some (.bool (p i))) := hT
  clear hT
  go_enter Tryz.func140, Tryz.ntmps140
  go_wp2_with fail
  go_loopw [8] (fun i wr => ∃ (k : Nat), k ≤ n ∧ i = .int .i64 k ∧ Hid (∀ j, j < k → p j = true) ∧ wr = w) (fun i _ => n - (intOf i).toNat)
  case atStart => exact ⟨0, Nat.zero_le _, rfl, fun j hj => by omega, rfl⟩
  case round =>
    obtain ⟨k, hk, rfl, HK, rfl⟩ := hrel
    by_cases hkn : k < n
    · have d0 := HT.out k hkn
      cases hp : p k
      · rw [hp] at d0
        go_wp2_with fail
        go_ret
        exact ⟨⟨_, rfl, .inr ⟨k, rfl, hkn, hp, HK.out⟩⟩, rfl⟩
      · rw [hp] at d0
        have HP : Hid (p k = true) := hp
        go_wp2_with fail
        go_roundw
        case rel => exact ⟨k + 1, by omega, by go_num, fun j hj => by
          by_cases e : j = k
          · subst e; exact HP.out
          · exact HK.out j (by omega), by first | rfl | trivial⟩
        case measure => simp [intOf]; omega
    · go_wp2_with fail
      go_ret
      exact ⟨⟨_, rfl, .inl ⟨rfl, fun i hi => HK.out i (by omega)⟩⟩, rfl⟩

theorem noteM_eight {u : UD} {f n : Nat} (hf : f < u.n) (hn : n < (u.fn f).nn) (h3 : ∀ f', f' < f → ∀ n', n' < (u.fn f').nn → ¬ TwiceBad u f' n') (h4 : ∀ n', n' < n → ¬ TwiceBad u f n') (h5 : TwiceBad u f n) : Least (NoteM u) ⟨8, f, n⟩ :=
  Least.ahead (At2.least (N := fun f => (u.fn f).nn) (bad := TwiceBad u) (by decide) h3 h4 hf hn h5) (by show (8 : Nat) ≠ 0; decide) fun y hy => by
    show 8 < y.c
    rw [hy.1]; decide
theorem noteM_nine {u : UD} {f : Nat} (hf : f < u.n) (h1 : 1 ≤ f) (h8 : ∀ f', f' < u.n → ∀ n', n' < (u.fn f').nn → ¬ TwiceBad u f' n') (h3 : ∀ f', 1 ≤ f' → f' < f → ∃ g x, MakesAt u g x f') (h5 : ¬ ∃ g x, MakesAt u g x f) : Least (NoteM u) ⟨9, f, 0⟩ :=
  Least.behind (fun y hy => h8 _ hy.2.1 _ hy.2.2.1 hy.2.2.2) (.inr ⟨by show (0 : Nat) < 9; decide, ⟨rfl, rfl, h1, hf, h5⟩, fun y hy => .inr ⟨hy.1.symm, by
    show f < y.f ∨ f = y.f ∧ 0 ≤ y.n
    by_cases e : y.f < f
    · exact absurd (h3 _ hy.2.2.1 e) hy.2.2.2.2
    · omega⟩⟩)
theorem noteM_none {u : UD} (h8 : ∀ f', f' < u.n → ∀ n', n' < (u.fn f').nn → ¬ TwiceBad u f' n') (h9 : ∀ f', 1 ≤ f' → f' < u.n → ∃ g x, MakesAt u g x f') : Least (NoteM u) ft0 :=
  Least.zero fun y hy => by
    rcases hy with hy | hy
    · exact h8 _ hy.2.1 _ hy.2.2.1 hy.2.2.2
    · exact hy.2.2.2.2 (h9 _ hy.2.2.1 hy.2.2.2.1)
/-- what is noted hangs on makers of fns that are there alone -/
theorem made_in {w : World} {M : Nat} {u : UD} {f x : Nat} (hf : f < u.n) (hx : x < (u.fn f).nn) (h : MadeRow w M u f x) (hk : ¬ InR (((u.fn f).nd x).r 0) u.n) : MadeRow w M u f (x + 1) := (World.rowIs.congr h fun i hi => by
  have e : MadeBefore u f (x + 1) i ↔ MadeBefore u f x i := by
    rw [made_succ hf hx]
    exact ⟨fun h => h.elim id fun h => absurd (⟨by omega, by omega⟩ : InR (((u.fn f).nd x).r 0) u.n) hk, .inl⟩
  by_cases c : MadeBefore u f x i
  · rw [dB_true c, dB_true (e.2 c)]
  · rw [dB_false c, dB_false fun c' => c (e.1 c')])

set_option maxRecDepth 100000 in
set_option maxHeartbeats 4000000 in
theorem makerFault_calls (L : Nat) (u : UD) (a : Option Addr) (cap : Nat) (fas : Nat → FA) (w : World) (hs : u.sm) (h3 : U3 u) (hT : FnsAt L w u.n u.fn a fas) :
    Calls Tryz.prog 80 #[unV u a cap] w fun e w' => FtPost (NoteM u) w e w' := by
  have HT : Hid (FnsAt L w u.n u.fn a fas) := hT
  have HS : Hid u.sm := hs
  have H3 : Hid (U3 u) := h3
  have hun := h3.size.2.1
  have hun1 := h3.size.1
  obtain ⟨b, off, e0, _, hb, _⟩ := cells7 hT.1 (show 0 < u.n from h3.size.1)
  subst e0
  clear hT hs h3
  have hmk := fun v => run_make_row' (P := Tryz.prog) 217 4 (.bool false) 1 Tryz.underlying217 infoBool rfl .i64 .i64 u.n (by omega) (by omega) v
  go_enter Tryz.func80, Tryz.ntmps80
  go_wp2_with fail
  clear hmk
  obtain ⟨w3, hw3⟩ : ∃ w3, w3 = (fxW w u (some ⟨b, off, none⟩) cap).alloc (.cells (madeCells #[.bool false] u.n) 4) := ⟨_, rfl⟩
  have HBm : Hid (Below (fxW w u (some ⟨b, off, none⟩) cap).heap.size (fxW w u (some ⟨b, off, none⟩) cap) w3) := by show Below _ _ _; rw [hw3]; exact below_alloc _ _
  have HR3 : Hid (MadeRow w3 (w.heap.size + 1 + 1) u 0 0) := by
    show World.rowIs _ _ _ _ _
    rw [hw3]
    exact (rowMade _ _ _ (by simp)).congr fun i _ => by rw [dB_false made_zero]
  simp only [fxW] at hw3
  rw [← hw3]
  clear hw3
  have hfm : (fxW w u (some ⟨b, off, none⟩) cap).heap.size ≤ w.heap.size + 1 + 1 := by simp
  have hm3 : w.heap.size + 1 + 1 < w3.heap.size := World.rowIs.lt HR3.out
  go_loopw [16] (fun i wr => ∃ (k : Nat), k ≤ u.n ∧ i = .int .i64 k ∧ Hid (∀ f', f' < k → ∀ n', n' < (u.fn f').nn → ¬ TwiceBad u f' n') ∧ Hid (Below (w.heap.size + 1 + 1) w3 wr) ∧ Hid (MadeRow wr (w.heap.size + 1 + 1) u k 0)) (fun i _ => u.n - (intOf i).toNat)
  case atStart => exact ⟨0, Nat.zero_le _, rfl, fun f' hf' => by omega, Below.refl _ _, HR3⟩
  case round =>
    clear HR3
    obtain ⟨k, hk, rfl, H8, HW, HM⟩ := hrel
    have HB : Hid (Below (fxW w u (some ⟨b, off, none⟩) cap).heap.size (fxW w u (some ⟨b, off, none⟩) cap) wr) := HBm.out.trans (HW.out.mono hfm)
    by_cases hkn : k < u.n
    · have HTr : Hid (FnsAt L wr u.n u.fn (some ⟨b, off, none⟩) fas) := HT.out.below (fx_below HB.out)
      obtain ⟨b', off', e0, _, hbz, d0, d1, d2, d3, d4, d5, d6⟩ := cells7 HTr.out.1 hkn
      obtain ⟨rfl, rfl⟩ : b = b' ∧ off = off' := by simpa using e0
      clear e0
      have hnn := H3.out.nn hkn
      have hMw : w.heap.size + 1 + 1 < wr.heap.size := Nat.lt_of_lt_of_le hm3 HW.out.size
      rename World => wa
      go_wp2_with fail
      clear d0 d1 d2 d3 d4 d5 d6
      have HW1 : Hid (Below (w.heap.size + 1 + 1) w3 (wa.alloc (.cells (fnC (u.fn k) (fas k)) 90))) := HW.out.alloc (by omega) _
      have HM1 : Hid (MadeRow (wa.alloc (.cells (fnC (u.fn k) (fas k)) 90)) (w.heap.size + 1 + 1) u k 0) := HM.out.below (below_alloc _ _)
      clear HB HTr HW HM
      go_loopw [24] (fun i wr => ∃ (m : Nat), m ≤ (u.fn k).nn ∧ i = .int .i64 m ∧ Hid (∀ n', n' < m → ¬ TwiceBad u k n') ∧ Hid (Below (w.heap.size + 1 + 1) w3 wr) ∧ Hid (MadeRow wr (w.heap.size + 1 + 1) u k m)) (fun i _ => (u.fn k).nn - (intOf i).toNat)
      case atStart => exact ⟨0, Nat.zero_le _, rfl, fun f' hf' => by omega, HW1, HM1⟩
      case round =>
        clear HW1 HM1
        obtain ⟨m, hm, rfl, HN, HW, HM⟩ := hrel
        have HB : Hid (Below (fxW w u (some ⟨b, off, none⟩) cap).heap.size (fxW w u (some ⟨b, off, none⟩) cap) wr) := HBm.out.trans (HW.out.mono hfm)
        by_cases hmn : m < (u.fn k).nn
        · have HTr : Hid (FnsAt L wr u.n u.fn (some ⟨b, off, none⟩) fas) := HT.out.below (fx_below HB.out)
          have hMw2 : w.heap.size + 1 + 1 < wr.heap.size := World.rowIs.lt HM.out
          obtain ⟨b2, o2, e2, _, hb2, g0, g1, g2, g3, g4, g5, g6, g7⟩ := cells8 (HTr.out.2 k hkn).2.2.1 hmn
          rw [e2]
          clear e2
          have HWn : Hid (Below (w.heap.size + 1 + 1) w3 (wr.alloc (.cells (nodeC ((u.fn k).nd m) ((fas k).nas m)) 95))) := HW.out.alloc (by omega) _
          have s0 := (fx_row HB.out).cell (i := 0) (by omega)
          have s1 := (fx_row HB.out).cell (i := 1) (by omega)
          have s2 := (fx_row HB.out).cell (i := 2) (by omega)
          have sz := (fx_row HB.out).frozen
          have hrz : w.heap.size + 1 < wr.heap.size := (fx_row HB.out).lt
          by_cases h36 : ((u.fn k).nd m).k = 36
          · have q36 : (((u.fn k).nd m).k != 36) = false := by rw [h36]; rfl
            have hrn := (H3.out.facts hkn hmn).one (.inr (.inr (.inl h36)))
            obtain ⟨b3, o3, e3, _, hb3, r0⟩ := cells1 ((HTr.out.2 k hkn).2.2.2 m hmn).1 (show 0 < ((u.fn k).nd m).rn by omega)
            rw [e3, hrn] at g6
            rw [Nat.add_zero] at r0
            have hcell : nodeC ((u.fn k).nd m) ((fas k).nas m) = nodeX ((u.fn k).nd m) (some ⟨b3, o3, none⟩) 1 ((fas k).nas m) := by
              show #[_, _, _, _, _, _, _, _] = #[_, _, _, _, _, _, _, _]
              rw [e3, hrn]
            have HCL : Hid (nodeC ((u.fn k).nd m) ((fas k).nas m) = nodeX ((u.fn k).nd m) (some ⟨b3, o3, none⟩) 1 ((fas k).nas m)) := hcell
            clear hcell hrn e3
            have H36 : Hid (((u.fn k).nd m).k = 36) := h36
            clear h36
            by_cases hin : InR (((u.fn k).nd m).r 0) u.n
            · obtain ⟨g, hg⟩ : ∃ g : Nat, ((u.fn k).nd m).r 0 = g := ⟨(((u.fn k).nd m).r 0).toNat, by have := hin.1; omega⟩
              have hgn : g < u.n := by have := hin.2; omega
              have HI : Hid (InR (((u.fn k).nd m).r 0) u.n) := hin
              have HG : Hid (((u.fn k).nd m).r 0 = g) := hg
              rw [hg] at r0
              have hw : wiB (g : Int) (u.n : Int) = true := by unfold wiB; simp; omega
              clear hin hg
              have m0 := World.rowIs.cell HM.out (i := g) hgn
              have mz := World.rowIs.frozen HM.out
              by_cases c2 : MadeBefore u k m g
              · have HL : Hid (Least (NoteM u) ⟨8, k, m⟩) := noteM_eight hkn hmn H8.out HN.out ⟨H36.out, HI.out, by rw [HG.out]; exact c2⟩
                rw [dB_true c2] at m0
                clear c2
                go_wp2_with (go_at_call 139; refine (within_calls _ _ _).mono ?_; rw [hw]; rintro e w1 ⟨rfl, rfl⟩)
                refine bodyPost_ret (v := ftV ⟨8, k, m⟩) (by simp [results, Tryz.results80, go_sem, s0, s1, s2, hrz]) rfl ?_
                exact FtPost.of HL.out (below_a' (fx_out (fx_below HB.out) _ _ _) _)
              · have HT2 : Hid (¬ TwiceBad u k m) := fun h => c2 (by have := h.2.2; rw [HG.out] at this; exact this)
                rw [dB_false c2] at m0
                clear c2
                have HMn : Hid (MadeRow ((wr.setCell ⟨w.heap.size + 1 + 1, g, none⟩ (.bool true)).alloc (.cells (nodeX ((u.fn k).nd m) (some ⟨b3, o3, none⟩) 1 ((fas k).nas m)) 95)) (w.heap.size + 1 + 1) u k (m + 1)) := (MadeRow.set hkn hmn HM.out H36.out HG.out).below (below_alloc _ _)
                have HWs : Hid (Below (w.heap.size + 1 + 1) w3 ((wr.setCell ⟨w.heap.size + 1 + 1, g, none⟩ (.bool true)).alloc (.cells (nodeX ((u.fn k).nd m) (some ⟨b3, o3, none⟩) 1 ((fas k).nas m)) 95))) := (frS HW.out (Nat.le_refl _) _).alloc (by simp; omega) _
                go_wp2_with (go_at_call 139; refine (within_calls _ _ _).mono ?_; rw [hw]; rintro e w1 ⟨rfl, rfl⟩)
                go_roundw
                case rel => exact ⟨m + 1, by omega, by go_num, fun j hj => by
                  by_cases e : j = m
                  · subst e; exact HT2.out
                  · exact HN.out j (by omega), HWs, HMn⟩
                case measure => simp [intOf]; omega
            · have hw : wiB (((u.fn k).nd m).r 0) (u.n : Int) = false := by unfold wiB; unfold InR at hin; simp; omega
              have HT2 : Hid (¬ TwiceBad u k m) := fun h => hin h.2.1
              have HMn : Hid (MadeRow (wr.alloc (.cells (nodeX ((u.fn k).nd m) (some ⟨b3, o3, none⟩) 1 ((fas k).nas m)) 95)) (w.heap.size + 1 + 1) u k (m + 1)) := (made_in hkn hmn HM.out hin).below (below_alloc _ _)
              rw [HCL.out] at HWn
              clear hin
              go_wp2_with (go_at_call 139; refine (within_calls _ _ _).mono ?_; rw [hw]; rintro e w1 ⟨rfl, rfl⟩)
              go_roundw
              case rel => exact ⟨m + 1, by omega, by go_num, fun j hj => by
                by_cases e : j = m
                · subst e; exact HT2.out
                · exact HN.out j (by omega), HWn, HMn⟩
              case measure => simp [intOf]; omega
          · have q36 : (((u.fn k).nd m).k != 36) = true := by simpa using h36
            have HT2 : Hid (¬ TwiceBad u k m) := fun h => h36 h.1
            have HMn : Hid (MadeRow (wr.alloc (.cells (nodeC ((u.fn k).nd m) ((fas k).nas m)) 95)) (w.heap.size + 1 + 1) u k (m + 1)) := (HM.out.skip hkn hmn h36).below (below_alloc _ _)
            clear h36
            go_wp2_with fail
            go_roundw
            case rel => exact ⟨m + 1, by omega, by go_num, fun j hj => by
              by_cases e : j = m
              · subst e; exact HT2.out
              · exact HN.out j (by omega), HWn, HMn⟩
            case measure => simp [intOf]; omega
        · obtain rfl : m = (u.fn k).nn := by omega
          have HM2 : Hid (MadeRow wr (w.heap.size + 1 + 1) u (k + 1) 0) := HM.out.congr fun v => made_next.symm
          go_wp2_with fail
          go_roundw
          case rel => exact ⟨k + 1, by omega, by go_num, fun j hj => by
            by_cases e : j = k
            · subst e; exact HN.out
            · exact H8.out j (by omega), HW, HM2⟩
          case measure => simp [intOf]; omega
    · obtain rfl : k = u.n := by omega
      have s0 := (fx_row HB.out).cell (i := 0) (by omega)
      have s1 := (fx_row HB.out).cell (i := 1) (by omega)
      have s2 := (fx_row HB.out).cell (i := 2) (by omega)
      have sz := (fx_row HB.out).frozen
      have hrz : w.heap.size + 1 < wr.heap.size := (fx_row HB.out).lt
      have HC : Hid (∀ i, i < u.n - 1 → wr.cell? ⟨w.heap.size + 1 + 1, 1 + i, none⟩ = some (.bool (dB (MadeBefore u u.n 0 ((1 + i : Nat) : Int))))) := fun i hi => World.rowIs.cell HM.out (i := 1 + i) (by omega)
      have hsub : u.n - 1 ≤ 1048576 := by omega
      have H8a : Hid (∀ f', f' < u.n → ∀ n', n' < (u.fn f').nn → ¬ TwiceBad u f' n') := H8.out
      by_cases h1n : u.n = 1
      · have HL : Hid (Least (NoteM u) ft0) := noteM_none H8a.out fun f' a b => by omega
        go_wp2_with fail
        all_goals first
          | (refine (indexB_calls (w.heap.size + 1 + 1) 0 0 0 (fun _ => true) wr (by omega) (fun i hi => by omega)).mono ?_)
          | omega
        rintro e w1 ⟨⟨r, rfl, hr⟩, rfl⟩
        rcases hr with ⟨rfl, _⟩ | ⟨i, rfl, hin, _⟩
        · go_wp2_with fail
          refine bodyPost_ret (v := ftV ft0) (by simp [results, Tryz.results80, go_sem, s0, s1, s2]) rfl ?_
          exact FtPost.of HL.out (fx_out (fx_below HB.out) _ _ _)
        · omega
      · go_wp2_with fail
        all_goals first
          | (refine (indexB_calls (w.heap.size + 1 + 1) 1 (u.n - 1) (u.n - 1) (fun i => dB (MadeBefore u u.n 0 ((1 + i : Nat) : Int))) wr hsub HC.out).mono ?_)
          | omega
        rintro e w1 ⟨⟨r, rfl, hr⟩, rfl⟩
        rcases hr with ⟨rfl, ha⟩ | ⟨i, rfl, hin, hpi, hbe⟩
        · have HL : Hid (Least (NoteM u) ft0) := noteM_none H8a.out fun f' a b => by
            have : dB (MadeBefore u u.n 0 ((1 + (f' - 1) : Nat) : Int)) = true := ha (f' - 1) (by omega)
            rw [show 1 + (f' - 1) = f' by omega] at this
            exact made_all.1 (dB_iff.1 this)
          clear ha
          go_wp2_with fail
          refine bodyPost_ret (v := ftV ft0) (by simp [results, Tryz.results80, go_sem, s0, s1, s2]) rfl ?_
          exact FtPost.of HL.out (fx_out (fx_below HB.out) _ _ _)
        · have HL : Hid (Least (NoteM u) ⟨9, 1 + i, 0⟩) := noteM_nine (by omega) (by omega) H8a.out (fun f' a b => by
            have : dB (MadeBefore u u.n 0 ((1 + (f' - 1) : Nat) : Int)) = true := hbe (f' - 1) (by omega)
            rw [show 1 + (f' - 1) = f' by omega] at this
            exact made_all.1 (dB_iff.1 this)) (fun h => by
            have hpj : dB (MadeBefore u u.n 0 ((1 + i : Nat) : Int)) = false := hpi
            rw [dB_true (made_all.2 h)] at hpj
            cases hpj)
          clear hbe hpi
          go_wp2_with fail
          refine bodyPost_ret (v := ftV ⟨9, 1 + i, 0⟩) (by simp [results, Tryz.results80, go_sem, s0, s1, s2]; omega) rfl ?_
          exact FtPost.of HL.out (fx_out (fx_below HB.out) _ _ _)
end Go.Proofs.YtdialodjllpgaaaGreatDoor

/-! The program's check of a unit: scopes, jumps, makers. -/
namespace Go.Proofs.YtdialodjllpgaaaGreatDoor
open Go.RowKit
attribute [local go_sem] run_store_float
attribute [local go_sem ↓] Go.wp_at_zero Go.wp_at_succ

/-- behind the boxes -/
abbrev sfW (w : World) (u : UD) (a : Option Addr) (cap : Nat) : World := ((w.alloc (.cells #[.slice a u.n cap] 31)).alloc (.cells #[.int .i64 0, .int .i64 0, .int .i64 0] 59)).alloc (.cells #[.int .i64 0, .int .i64 0, .int .i64 0] 59)
abbrev ftC (x : FT) : Array Value := #[.int .i64 (x.c : Int), .int .i64 (x.f : Int), .int .i64 (x.n : Int)]
theorem sf_below {w wr : World} {u : UD} {a : Option Addr} {cap : Nat} (h : Below (w.heap.size + 1 + 1) (sfW w u a cap) wr) : Below w.heap.size w wr := (below_alloc3 w _ _ _).trans (h.mono (by omega))
theorem sf_u {w wr : World} {u : UD} {a : Option Addr} {cap : Nat} (h : Below (w.heap.size + 1 + 1) (sfW w u a cap) wr) : wr.cell? ⟨w.heap.size, 0, none⟩ = some (.slice a u.n cap) := (h.cell (p := ⟨w.heap.size, 0, none⟩) (by show w.heap.size < _; omega)).trans (((Has.new w #[.slice a u.n cap] 31).alloc _).alloc _ |>.cell 0 rfl)
theorem sf_row {w wr : World} {u : UD} {a : Option Addr} {cap : Nat} (h : Below (w.heap.size + 1 + 1) (sfW w u a cap) wr) : wr.rowIs (w.heap.size + 1) 59 3 (fun _ => .int .i64 0) := by
  have h1 := (World.rowIs_alloc (w.alloc (.cells #[.slice a u.n cap] 31)) #[.int .i64 0, .int .i64 0, .int .i64 0] 59 (fun _ => .int .i64 0) (fun i hi => by
    have : i = 0 ∨ i = 1 ∨ i = 2 := by simp at hi; omega
    rcases this with rfl | rfl | rfl <;> rfl)).alloc (.cells #[.int .i64 0, .int .i64 0, .int .i64 0] 59)
  rw [show (w.alloc (.cells #[.slice a u.n cap] 31)).heap.size = w.heap.size + 1 by simp] at h1
  exact h1.of_block (h.block _ (by omega))
theorem sf_below_set {w wr : World} {u : UD} {a : Option Addr} {cap : Nat} (h : Below (w.heap.size + 1 + 1) (sfW w u a cap) wr) (v0 v1 v2 : Value) : Below w.heap.size w (((wr.setCell ⟨w.heap.size + 1, 0, none⟩ v0).setCell ⟨w.heap.size + 1, 1, none⟩ v1).setCell ⟨w.heap.size + 1, 2, none⟩ v2) := frS (frS (frS (sf_below h) (Nat.le_add_right _ _) _) (Nat.le_add_right _ _) _) (Nat.le_add_right _ _) _
theorem OwnB.callS {w w' : World} {B : Nat} {A : Array Value} (h : OwnB w B A) (hb : Below w.heap.size w w') : OwnB w' B A := h.block hb.size (hb.block _ h.1.1)
theorem OwnB.ft {w : World} {B : Nat} {x : FT} (h : OwnB w B (ftC x)) (y : FT) : OwnB (((w.setCell ⟨B, 0, none⟩ (.int .i64 (y.c : Int))).setCell ⟨B, 1, none⟩ (.int .i64 (y.f : Int))).setCell ⟨B, 2, none⟩ (.int .i64 (y.n : Int))) B (ftC y) :=
  ((h.set (o := 0) (by show 0 < 3; omega) _).set (o := 1) (by show 1 < 3; omega) _).set (o := 2) (by show 2 < 3; omega) _
theorem note_upto (u : UD) (k : Nat) (y : FT) : ((∃ g, g < k ∧ NoteF u g y) ∨ NoteF u k y) ↔ ∃ g, g < k + 1 ∧ NoteF u g y := by
  constructor
  · rintro (⟨g, h1, h2⟩ | h)
    · exact ⟨g, by omega, h2⟩
    · exact ⟨k, by omega, h⟩
  · rintro ⟨g, h1, h2⟩
    by_cases e : g = k
    · subst e; exact .inr h2
    · exact .inl ⟨g, by omega, h2⟩
def ScopeSaysC : Prop := ∀ (L : Nat) (u : UD) (a : Option Addr) (cap : Nat) (fas : Nat → FA) (w : World), u.sm → U5 u → (∀ i, i < u.n → CapF (u.fn i) (fas i)) → FnsAt L w u.n u.fn a fas →
  Calls Tryz.prog 39 #[unV u a cap] w fun e w' => FtPost (BadS u) w e w'

set_option maxRecDepth 100000 in
set_option maxHeartbeats 4000000 in
theorem scopeFault_calls : ScopeSaysC := by
  intro L u a cap fas w hs h5 hcf hT
  have HT : Hid (FnsAt L w u.n u.fn a fas) := hT
  have HS : Hid u.sm := hs
  have H5 : Hid (U5 u) := h5
  have HCF : Hid (∀ i, i < u.n → CapF (u.fn i) (fas i)) := hcf
  have hun := h5.size.2.1
  clear hT hs h5 hcf
  go_enter Tryz.func39, Tryz.ntmps39
  go_wp2_with fail
  obtain ⟨w3, hw3⟩ : ∃ w3, w3 = sfW w u a cap := ⟨_, rfl⟩
  have HB3 : Hid (Below (w.heap.size + 1 + 1) (sfW w u a cap) w3) := by show Below _ _ _; rw [hw3]; exact Below.refl _ _
  have HO3 : Hid (OwnB w3 (w.heap.size + 1 + 1) (ftC ft0)) := by
    show OwnB _ _ _
    rw [hw3]
    have h := OwnB.new ((w.alloc (.cells #[.slice a u.n cap] 31)).alloc (.cells #[.int .i64 0, .int .i64 0, .int .i64 0] 59)) #[.int .i64 0, .int .i64 0, .int .i64 0] 59
    rw [show ((w.alloc (.cells #[.slice a u.n cap] 31)).alloc (.cells #[.int .i64 0, .int .i64 0, .int .i64 0] 59)).heap.size = w.heap.size + 1 + 1 by simp] at h
    exact h
  simp only [sfW] at hw3
  rw [← hw3]
  clear hw3
  go_loopw [9] (fun i wr => ∃ (k : Nat) (x : FT), k ≤ u.n ∧ i = .int .i64 k ∧ Hid (Least (fun y => ∃ g, g < k ∧ NoteF u g y) x) ∧ Hid (OwnB wr (w.heap.size + 1 + 1) (ftC x)) ∧ Hid (Below (w.heap.size + 1 + 1) (sfW w u a cap) wr)) (fun i _ => u.n - (intOf i).toNat)
  case atStart => exact ⟨0, ft0, Nat.zero_le _, rfl, Least.zero (fun y ⟨g, hg, _⟩ => by omega), HO3, HB3⟩
  case round =>
    clear HO3 HB3
    obtain ⟨k, x, hk, rfl, HL, HO, HB⟩ := hrel
    have u0 := sf_u HB.out
    have f0 := HO.out.1.cell 0 rfl
    have f1 := HO.out.1.cell 1 rfl
    have f2 := HO.out.1.cell 2 rfl
    have z := HO.out.2
    have hlt := HO.out.1.1
    have hl0 := HO.out.1.1
    have HTr : Hid (FnsAt L wr u.n u.fn a fas) := HT.out.below (sf_below HB.out)
    by_cases hkn : k < u.n
    · have hh := H5.out.toU3.head k hkn
      have HOKd : Hid (∀ (S T : Nat), CX.ok ⟨S, T, L, wr.drew, u, k, a, cap, fas⟩) := fun S T => ⟨H5.out, HS.out, hkn, HTr.out, HCF.out k hkn⟩
      go_upto_region 5 with fail
      go_region_with (first | (go_at_call 78; refine (newScopes_calls L u k a cap fas _ hkn hh.1.2.1 (by first | exact HTr.out | exact HTr.out)).mono ?_; rintro e w5 ⟨S, T, rfl, hs5⟩; have HB5 : Hid (Below (w.heap.size + 1 + 1) (sfW w u a cap) w5) := HB.out.trans ((show Below wr.heap.size wr w5 from (Below.refl _ _).drew.trans hs5.b).mono (by omega)); have HO5 : Hid (OwnB w5 (w.heap.size + 1 + 1) (ftC x)) := HO.out.callS (show Below wr.heap.size wr w5 from (Below.refl _ _).drew.trans hs5.b); have hf5 := fun h1 h2 h3 => faults_calls _ h1 h2 h3 _ hs5; have HF5 : Hid (Calls Tryz.prog 79 #[.pointer (some ⟨S, 0, none⟩)] w5 fun e w' => FaultsPost ⟨S, T, L, wr.drew, u, k, a, cap, fas⟩ e w') := hf5 (HOKd.out S T) hh.1.2.1 hh.1.2.2.2; clear hs5 hf5; clear f0 f1 f2 z u0 hlt; have f0 := HO5.out.1.cell 0 rfl; have f1 := HO5.out.1.cell 1 rfl; have f2 := HO5.out.1.cell 2 rfl; have z := HO5.out.2; have hlt := HO5.out.1.1; have u0 := sf_u HB5.out) | (go_at_call 79; refine HF5.out.mono ?_; rintro e w6 ⟨x6, rfl, hl6, hb6⟩; have HL6 : Hid (Least (NoteF u k) x6) := hl6; have HB6 : Hid (Below (w.heap.size + 1 + 1) (sfW w u a cap) w6) := HB.out.trans ((show Below wr.heap.size wr w6 from (Below.refl _ _).drew.trans hb6).mono (by omega)); have HO6 : Hid (OwnB w6 (w.heap.size + 1 + 1) (ftC x)) := HO.out.callS (show Below wr.heap.size wr w6 from (Below.refl _ _).drew.trans hb6); clear hl6 hb6; clear f0 f1 f2 z u0 hlt; have f0 := HO6.out.1.cell 0 rfl; have f1 := HO6.out.1.cell 1 rfl; have f2 := HO6.out.1.cell 2 rfl; have z := HO6.out.2; have hlt := HO6.out.1.1; have u0 := sf_u HB6.out) | (go_at_call 77; refine (firstOf_calls x x6 _).mono ?_; rintro e w7 ⟨rfl, hb7⟩; have HB7 : Hid (Below (w.heap.size + 1 + 1) (sfW w u a cap) w7) := HB6.out.trans (hb7.mono (by omega)); have HO7 : Hid (OwnB w7 (w.heap.size + 1 + 1) (ftC x)) := HO6.out.callS hb7; clear hb7; clear f0 f1 f2 z u0 hlt; have f0 := HO7.out.1.cell 0 rfl; have f1 := HO7.out.1.cell 1 rfl; have f2 := HO7.out.1.cell 2 rfl; have z := HO7.out.2; have hlt := HO7.out.1.1; have u0 := sf_u HB7.out))
      all_goals go_wp2_with fail
      all_goals go_roundw
      all_goals first
        | exact ⟨k + 1, fstOf x x6, by omega, by go_num, (HL.out.first HL6.out).congr (note_upto u k), HO7.out.ft _, frS (frS (frS HB7.out (Nat.le_refl _) _) (Nat.le_refl _) _) (Nat.le_refl _) _⟩
        | (simp [intOf]; omega)
    · obtain rfl : k = u.n := by omega
      go_upto_region 7 with fail
      go_region_with (first | (go_at_call 80; refine (makerFault_calls L u a cap fas _ HS.out H5.out.toU3 (by first | exact HTr.out | exact HTr.out)).mono ?_; rintro e w6 ⟨x6, rfl, hl6, hb6⟩; have HL6 : Hid (Least (NoteM u) x6) := hl6; have HB6 : Hid (Below (w.heap.size + 1 + 1) (sfW w u a cap) w6) := HB.out.trans ((show Below wr.heap.size wr w6 from (Below.refl _ _).drew.trans hb6).mono (by omega)); have HO6 : Hid (OwnB w6 (w.heap.size + 1 + 1) (ftC x)) := HO.out.callS (show Below wr.heap.size wr w6 from (Below.refl _ _).drew.trans hb6); clear hl6 hb6; clear f0 f1 f2 z u0 hlt; have f0 := HO6.out.1.cell 0 rfl; have f1 := HO6.out.1.cell 1 rfl; have f2 := HO6.out.1.cell 2 rfl; have z := HO6.out.2; have hlt := HO6.out.1.1; have u0 := sf_u HB6.out) | (go_at_call 77; refine (firstOf_calls x x6 _).mono ?_; rintro e w7 ⟨rfl, hb7⟩; have HB7 : Hid (Below (w.heap.size + 1 + 1) (sfW w u a cap) w7) := HB6.out.trans (hb7.mono (by omega)); have HO7 : Hid (OwnB w7 (w.heap.size + 1 + 1) (ftC x)) := HO6.out.callS hb7; clear hb7; clear f0 f1 f2 z u0 hlt; have f0 := HO7.out.1.cell 0 rfl; have f1 := HO7.out.1.cell 1 rfl; have f2 := HO7.out.1.cell 2 rfl; have z := HO7.out.2; have hlt := HO7.out.1.1; have u0 := sf_u HB7.out; have s0 := World.rowIs.cell (sf_row HB7.out) (i := 0) (by omega); have s1 := World.rowIs.cell (sf_row HB7.out) (i := 1) (by omega); have s2 := World.rowIs.cell (sf_row HB7.out) (i := 2) (by omega); have sz := World.rowIs.frozen (sf_row HB7.out)))
      all_goals go_wp2_with fail
      all_goals refine bodyPost_ret (v := ftV (fstOf x x6)) (by simp [results, Tryz.results39, go_sem, s0, s1, s2]) rfl ?_
      all_goals exact FtPost.of ((HL.out.first HL6.out).congr fun y => notes_bad u y) (sf_below_set HB7.out _ _ _)
end Go.Proofs.YtdialodjllpgaaaGreatDoor
