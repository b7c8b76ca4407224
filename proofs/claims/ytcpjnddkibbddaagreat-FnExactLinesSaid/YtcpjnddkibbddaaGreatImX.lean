import Derived.Test.YtcpjnddkibbddaaGreatUnH
import Derived.Test.YtcpjnddkibbddaaGreatImL
import Derived.RangeFuncNested
import Derived.RangeFuncBound
import Derived.RangeFuncCalls
import Derived.RangeFuncLeaves
import Derived.Shelf.Abstract
import Derived.OwnWalkIn
import Derived.TacticsInMore
import Derived.LoopNIn
import Derived.LoopIn
/-! The program's check of a unit, given what depthsOf and scopeFault answer. -/
namespace Go.Proofs.YtcpjnddkibbddaaGreat
open Go.RowKit
attribute [local go_sem] run_store_float
attribute [local go_sem ↓] Go.wp_at_zero Go.wp_at_succ

def BadI (u : UD) : Nat → FT → Prop
  | 0 => Bad1 u
  | 1 => Bad2 u
  | 2 => Bad3 u
  | 3 => Bad4 u
  | 4 => Bad5 u
  | _ => BadS u
theorem badU_i {u : UD} {y : FT} (h : BadU u y) : ∃ j, j < 6 ∧ BadI u j y := by
  rcases h with h | h | h | h | h | h
  · exact ⟨0, by omega, h⟩
  · exact ⟨1, by omega, h⟩
  · exact ⟨2, by omega, h⟩
  · exact ⟨3, by omega, h⟩
  · exact ⟨4, by omega, h⟩
  · exact ⟨5, by omega, h⟩
theorem badI_u {u : UD} {y : FT} {j : Nat} (hj : j < 6) (h : BadI u j y) : BadU u y := by
  rcases (show j = 0 ∨ j = 1 ∨ j = 2 ∨ j = 3 ∨ j = 4 ∨ j = 5 by omega) with rfl | rfl | rfl | rfl | rfl | rfl
  · exact .inl h
  · exact .inr (.inl h)
  · exact .inr (.inr (.inl h))
  · exact .inr (.inr (.inr (.inl h)))
  · exact .inr (.inr (.inr (.inr (.inl h))))
  · exact .inr (.inr (.inr (.inr (.inr h))))
theorem badI_code {u : UD} {y : FT} {j : Nat} (hj : j < 6) (h : BadI u j y) : j + 1 ≤ y.c ∧ (j < 5 → y.c = j + 1) := by
  rcases (show j = 0 ∨ j = 1 ∨ j = 2 ∨ j = 3 ∨ j = 4 ∨ j = 5 by omega) with rfl | rfl | rfl | rfl | rfl | rfl
  · have := h.1; omega
  · have := h.1; omega
  · have := h.1; omega
  · have := h.1; omega
  · have := h.1; omega
  · have := badS_code h; omega
theorem badU_at {u : UD} {k : Nat} {x : FT} (hk : k < 6) (hn : ∀ j, j < k → ∀ y, ¬ BadI u j y) (h : Least (BadI u k) x) (h0 : x.c ≠ 0) : Least (BadU u) x := by
  have hx := h.in h0
  refine .inr ⟨by omega, badI_u hk hx, fun y hy => ?_⟩
  obtain ⟨j, hj, hy⟩ := badU_i hy
  by_cases e : j < k
  · exact absurd hy (hn j e y)
  · by_cases e2 : j = k
    · subst e2
      rcases h with ⟨rfl, _⟩ | ⟨_, _, h⟩
      · exact absurd rfl h0
      · exact h y hy
    · have h1 := badI_code hk hx
      have h2 := badI_code hj hy
      exact .inl (by have := h1.2 (by omega); omega)
theorem badU_no {u : UD} (hn : ∀ j, j < 6 → ∀ y, ¬ BadI u j y) : Least (BadU u) ft0 := Least.zero fun y hy => by
  obtain ⟨j, hj, hy⟩ := badU_i hy
  exact hn j hj y hy
theorem sz_of {u : UD} (h1 : ∀ y, ¬ Bad1 u y) : SizeOk u := Classical.byContradiction fun h => At2.no h1 0 (by omega) 0 (by omega) h
/-- what scopeFault is to answer (not shown here) -/
def ScopeSays : Prop := ∀ (L : Nat) (u : UD) (a : Option Addr) (cap : Nat) (fas : Nat → FA) (w : World), u.sm → U5 u → (∀ y, ¬ Bad5 u y) → (∀ i, i < u.n → CapF (u.fn i) (fas i)) → FnsAt L w u.n u.fn a fas →
  Calls Tryz.prog 34 #[unV u a cap] w fun e w' => FtPost (BadS u) w e w'

set_option maxRecDepth 100000 in
set_option maxHeartbeats 4000000 in
theorem checkUnit_of (hD : DepSays) (hX : ScopeSays) (L : Nat) (u : UD) (a : Option Addr) (cap : Nat) (fas : Nat → FA) (w : World) (hs : u.sm) (hc : ∀ i, i < u.n → CapF (u.fn i) (fas i)) (hT : FnsAt L w u.n u.fn a fas) :
    Calls Tryz.prog 18 #[unV u a cap] w fun e w' => FtPost (BadU u) w e w' := by
  have HD : Hid DepSays := hD
  have HX : Hid ScopeSays := hX
  have HT : Hid (FnsAt L w u.n u.fn a fas) := hT
  have HS : Hid u.sm := hs
  have HC : Hid (∀ i, i < u.n → CapF (u.fn i) (fas i)) := hc
  clear hT hs hD hX hc
  go_enter Tryz.func18, Tryz.ntmps18
  go_wp2_with fail
  obtain ⟨w3, hw3⟩ : ∃ w3, w3 = (fxW w u a cap).alloc (.cells #[.func (.func 29) #[] #[], .func (.func 30) #[] #[], .func (.func 31) #[] #[], .func (.func 32) #[] #[], .func (.func 33) #[] #[], .func (.func 34) #[] #[]] 40) := ⟨_, rfl⟩
  have HB3 : Hid (Below (fxW w u a cap).heap.size (fxW w u a cap) w3) := by show Below _ _ _; rw [hw3]; exact below_alloc _ _
  have HR3 : Hid (Has w3 (w.heap.size + 1 + 1) #[.func (.func 29) #[] #[], .func (.func 30) #[] #[], .func (.func 31) #[] #[], .func (.func 32) #[] #[], .func (.func 33) #[] #[], .func (.func 34) #[] #[]]) := by
    have h := Has.new (fxW w u a cap) #[.func (.func 29) #[] #[], .func (.func 30) #[] #[], .func (.func 31) #[] #[], .func (.func 32) #[] #[], .func (.func 33) #[] #[], .func (.func 34) #[] #[]] 40
    rw [← hw3] at h
    show Has _ _ _
    simpa using h
  simp only [fxW] at hw3
  rw [← hw3]
  clear hw3
  go_loopw [8] (fun i wr => ∃ (k : Nat), k ≤ 6 ∧ i = .int .i64 k ∧ Hid (∀ j, j < k → ∀ y, ¬ BadI u j y) ∧ Hid (Below (fxW w u a cap).heap.size (fxW w u a cap) wr) ∧ Hid (Has wr (w.heap.size + 1 + 1) #[.func (.func 29) #[] #[], .func (.func 30) #[] #[], .func (.func 31) #[] #[], .func (.func 32) #[] #[], .func (.func 33) #[] #[], .func (.func 34) #[] #[]])) (fun i _ => 6 - (intOf i).toNat)
  case atStart => exact ⟨0, by omega, rfl, fun j hj => by omega, HB3, HR3⟩
  case round =>
    clear HB3 HR3
    obtain ⟨k, hk, rfl, HN, HB, HR⟩ := hrel
    have hW := fx_below HB.out
    have f0 : wr.cell? ⟨w.heap.size, 0, none⟩ = some (.slice a u.n cap) := (fx_u HB.out).cell 0 rfl
    rcases (show k = 0 ∨ k = 1 ∨ k = 2 ∨ k = 3 ∨ k = 4 ∨ k = 5 ∨ k = 6 by omega) with rfl | rfl | rfl | rfl | rfl | rfl | rfl
    · have g0 : wr.cell? ⟨w.heap.size + 1 + 1, 0, none⟩ = some (.func (.func 29) #[] #[]) := HR.out.cell 0 rfl
      have LK : Hid (Calls Tryz.prog 29 #[unV u a cap] wr fun e w' => FtPost (BadI u 0) wr e w') := sizeFault_calls L u a cap fas wr HS.out (HT.out.below hW)
      go_upto_region 5 with (go_at_call 29; refine LK.out.mono ?_; rintro e w1 ⟨⟨c1, f1, n1⟩, rfl, hL1, hb1⟩; have HL1 : Hid (Least (BadI u 0) ⟨c1, f1, n1⟩) := hL1; clear hL1)
      clear g0 f0 hW LK
      obtain ⟨wA, hwA⟩ : ∃ wA, wA = w1.alloc (.cells #[.int .i64 (c1 : Int), .int .i64 (f1 : Int), .int .i64 (n1 : Int)] 39) := ⟨_, rfl⟩
      have HB1 : Hid (Below (fxW w u a cap).heap.size (fxW w u a cap) wA) := by show Below _ _ _; rw [hwA]; exact below_a' (below_call HB.out hb1) _
      have HA : Hid (Has wA w1.heap.size #[.int .i64 (c1 : Int), .int .i64 (f1 : Int), .int .i64 (n1 : Int)]) := by show Has _ _ _; rw [hwA]; exact Has.new _ _ _
      have HR1 : Hid (Has wA (w.heap.size + 1 + 1) #[.func (.func 29) #[] #[], .func (.func 30) #[] #[], .func (.func 31) #[] #[], .func (.func 32) #[] #[], .func (.func 33) #[] #[], .func (.func 34) #[] #[]]) := by show Has _ _ _; rw [hwA]; exact (HR.out.call hb1).alloc _
      rw [← hwA]
      clear hwA hb1
      have a0 : wA.cell? ⟨w1.heap.size, 0, none⟩ = some (.int .i64 (c1 : Int)) := HA.out.cell 0 rfl
      have a1 : wA.cell? ⟨w1.heap.size, 1, none⟩ = some (.int .i64 (f1 : Int)) := HA.out.cell 1 rfl
      have a2 : wA.cell? ⟨w1.heap.size, 2, none⟩ = some (.int .i64 (n1 : Int)) := HA.out.cell 2 rfl
      by_cases c0 : c1 = 0
      · have hz := HL1.out.nil c0
        have HN1 : Hid (∀ j, j < 0 + 1 → ∀ y, ¬ BadI u j y) := fun j hj => by
          by_cases e : j = 0
          · subst e
            have h := HL1.out
            rw [hz] at h
            exact h.none
          · exact HN.out j (by omega)
        obtain ⟨rfl, rfl, rfl⟩ : c1 = 0 ∧ f1 = 0 ∧ n1 = 0 := by simpa [ft0] using hz
        clear hz HL1 c0
        go_wp2_with fail
        go_roundw
        case rel => exact ⟨0 + 1, by omega, by go_num, HN1, HB1, HR1⟩
        case measure => simp [intOf]
      · have s0 := (fx_row HB1.out).cell (i := 0) (by omega)
        have s1 := (fx_row HB1.out).cell (i := 1) (by omega)
        have s2 := (fx_row HB1.out).cell (i := 2) (by omega)
        have sz := (fx_row HB1.out).frozen
        have HQ : Hid (Least (BadU u) ⟨c1, f1, n1⟩) := badU_at (by omega) HN.out HL1.out c0
        have q1 : ((c1 : Int) == 0) = false := by simp; omega
        have q2 : ((c1 : Int) != 0) = true := by simp; omega
        go_wp2_with fail
        refine bodyPost_ret (v := ftV ⟨c1, f1, n1⟩) (by simp [results, Tryz.results18, go_sem, s0, s1, s2]) rfl ?_
        exact FtPost.of HQ.out (fx_out (fx_below HB1.out) _ _ _)
    · have g0 : wr.cell? ⟨w.heap.size + 1 + 1, 1, none⟩ = some (.func (.func 30) #[] #[]) := HR.out.cell 1 rfl
      have LK : Hid (Calls Tryz.prog 30 #[unV u a cap] wr fun e w' => FtPost (BadI u 1) wr e w') := fnFault_calls L u a cap fas wr HS.out (HT.out.below hW)
      go_upto_region 5 with (go_at_call 30; refine LK.out.mono ?_; rintro e w1 ⟨⟨c1, f1, n1⟩, rfl, hL1, hb1⟩; have HL1 : Hid (Least (BadI u 1) ⟨c1, f1, n1⟩) := hL1; clear hL1)
      clear g0 f0 hW LK
      obtain ⟨wA, hwA⟩ : ∃ wA, wA = w1.alloc (.cells #[.int .i64 (c1 : Int), .int .i64 (f1 : Int), .int .i64 (n1 : Int)] 39) := ⟨_, rfl⟩
      have HB1 : Hid (Below (fxW w u a cap).heap.size (fxW w u a cap) wA) := by show Below _ _ _; rw [hwA]; exact below_a' (below_call HB.out hb1) _
      have HA : Hid (Has wA w1.heap.size #[.int .i64 (c1 : Int), .int .i64 (f1 : Int), .int .i64 (n1 : Int)]) := by show Has _ _ _; rw [hwA]; exact Has.new _ _ _
      have HR1 : Hid (Has wA (w.heap.size + 1 + 1) #[.func (.func 29) #[] #[], .func (.func 30) #[] #[], .func (.func 31) #[] #[], .func (.func 32) #[] #[], .func (.func 33) #[] #[], .func (.func 34) #[] #[]]) := by show Has _ _ _; rw [hwA]; exact (HR.out.call hb1).alloc _
      rw [← hwA]
      clear hwA hb1
      have a0 : wA.cell? ⟨w1.heap.size, 0, none⟩ = some (.int .i64 (c1 : Int)) := HA.out.cell 0 rfl
      have a1 : wA.cell? ⟨w1.heap.size, 1, none⟩ = some (.int .i64 (f1 : Int)) := HA.out.cell 1 rfl
      have a2 : wA.cell? ⟨w1.heap.size, 2, none⟩ = some (.int .i64 (n1 : Int)) := HA.out.cell 2 rfl
      by_cases c0 : c1 = 0
      · have hz := HL1.out.nil c0
        have HN1 : Hid (∀ j, j < 1 + 1 → ∀ y, ¬ BadI u j y) := fun j hj => by
          by_cases e : j = 1
          · subst e
            have h := HL1.out
            rw [hz] at h
            exact h.none
          · exact HN.out j (by omega)
        obtain ⟨rfl, rfl, rfl⟩ : c1 = 0 ∧ f1 = 0 ∧ n1 = 0 := by simpa [ft0] using hz
        clear hz HL1 c0
        go_wp2_with fail
        go_roundw
        case rel => exact ⟨1 + 1, by omega, by go_num, HN1, HB1, HR1⟩
        case measure => simp [intOf]
      · have s0 := (fx_row HB1.out).cell (i := 0) (by omega)
        have s1 := (fx_row HB1.out).cell (i := 1) (by omega)
        have s2 := (fx_row HB1.out).cell (i := 2) (by omega)
        have sz := (fx_row HB1.out).frozen
        have HQ : Hid (Least (BadU u) ⟨c1, f1, n1⟩) := badU_at (by omega) HN.out HL1.out c0
        have q1 : ((c1 : Int) == 0) = false := by simp; omega
        have q2 : ((c1 : Int) != 0) = true := by simp; omega
        go_wp2_with fail
        refine bodyPost_ret (v := ftV ⟨c1, f1, n1⟩) (by simp [results, Tryz.results18, go_sem, s0, s1, s2]) rfl ?_
        exact FtPost.of HQ.out (fx_out (fx_below HB1.out) _ _ _)
    · have g0 : wr.cell? ⟨w.heap.size + 1 + 1, 2, none⟩ = some (.func (.func 31) #[] #[]) := HR.out.cell 2 rfl
      have LK : Hid (Calls Tryz.prog 31 #[unV u a cap] wr fun e w' => FtPost (BadI u 2) wr e w') := formFault_calls L u a cap fas wr HS.out (sz_of (HN.out 0 (by omega))) HC.out (HT.out.below hW)
      go_upto_region 5 with (go_at_call 31; refine LK.out.mono ?_; rintro e w1 ⟨⟨c1, f1, n1⟩, rfl, hL1, hb1⟩; have HL1 : Hid (Least (BadI u 2) ⟨c1, f1, n1⟩) := hL1; clear hL1)
      clear g0 f0 hW LK
      obtain ⟨wA, hwA⟩ : ∃ wA, wA = w1.alloc (.cells #[.int .i64 (c1 : Int), .int .i64 (f1 : Int), .int .i64 (n1 : Int)] 39) := ⟨_, rfl⟩
      have HB1 : Hid (Below (fxW w u a cap).heap.size (fxW w u a cap) wA) := by show Below _ _ _; rw [hwA]; exact below_a' (below_call HB.out hb1) _
      have HA : Hid (Has wA w1.heap.size #[.int .i64 (c1 : Int), .int .i64 (f1 : Int), .int .i64 (n1 : Int)]) := by show Has _ _ _; rw [hwA]; exact Has.new _ _ _
      have HR1 : Hid (Has wA (w.heap.size + 1 + 1) #[.func (.func 29) #[] #[], .func (.func 30) #[] #[], .func (.func 31) #[] #[], .func (.func 32) #[] #[], .func (.func 33) #[] #[], .func (.func 34) #[] #[]]) := by show Has _ _ _; rw [hwA]; exact (HR.out.call hb1).alloc _
      rw [← hwA]
      clear hwA hb1
      have a0 : wA.cell? ⟨w1.heap.size, 0, none⟩ = some (.int .i64 (c1 : Int)) := HA.out.cell 0 rfl
      have a1 : wA.cell? ⟨w1.heap.size, 1, none⟩ = some (.int .i64 (f1 : Int)) := HA.out.cell 1 rfl
      have a2 : wA.cell? ⟨w1.heap.size, 2, none⟩ = some (.int .i64 (n1 : Int)) := HA.out.cell 2 rfl
      by_cases c0 : c1 = 0
      · have hz := HL1.out.nil c0
        have HN1 : Hid (∀ j, j < 2 + 1 → ∀ y, ¬ BadI u j y) := fun j hj => by
          by_cases e : j = 2
          · subst e
            have h := HL1.out
            rw [hz] at h
            exact h.none
          · exact HN.out j (by omega)
        obtain ⟨rfl, rfl, rfl⟩ : c1 = 0 ∧ f1 = 0 ∧ n1 = 0 := by simpa [ft0] using hz
        clear hz HL1 c0
        go_wp2_with fail
        go_roundw
        case rel => exact ⟨2 + 1, by omega, by go_num, HN1, HB1, HR1⟩
        case measure => simp [intOf]
      · have s0 := (fx_row HB1.out).cell (i := 0) (by omega)
        have s1 := (fx_row HB1.out).cell (i := 1) (by omega)
        have s2 := (fx_row HB1.out).cell (i := 2) (by omega)
        have sz := (fx_row HB1.out).frozen
        have HQ : Hid (Least (BadU u) ⟨c1, f1, n1⟩) := badU_at (by omega) HN.out HL1.out c0
        have q1 : ((c1 : Int) == 0) = false := by simp; omega
        have q2 : ((c1 : Int) != 0) = true := by simp; omega
        go_wp2_with fail
        refine bodyPost_ret (v := ftV ⟨c1, f1, n1⟩) (by simp [results, Tryz.results18, go_sem, s0, s1, s2]) rfl ?_
        exact FtPost.of HQ.out (fx_out (fx_below HB1.out) _ _ _)
    · have g0 : wr.cell? ⟨w.heap.size + 1 + 1, 3, none⟩ = some (.func (.func 32) #[] #[]) := HR.out.cell 3 rfl
      have LK : Hid (Calls Tryz.prog 32 #[unV u a cap] wr fun e w' => FtPost (BadI u 3) wr e w') := treeFault_calls L u a cap fas wr HS.out (u3_of (HN.out 0 (by omega)) (HN.out 1 (by omega)) (HN.out 2 (by omega))) (HT.out.below hW)
      go_upto_region 5 with (go_at_call 32; refine LK.out.mono ?_; rintro e w1 ⟨⟨c1, f1, n1⟩, rfl, hL1, hb1⟩; have HL1 : Hid (Least (BadI u 3) ⟨c1, f1, n1⟩) := hL1; clear hL1)
      clear g0 f0 hW LK
      obtain ⟨wA, hwA⟩ : ∃ wA, wA = w1.alloc (.cells #[.int .i64 (c1 : Int), .int .i64 (f1 : Int), .int .i64 (n1 : Int)] 39) := ⟨_, rfl⟩
      have HB1 : Hid (Below (fxW w u a cap).heap.size (fxW w u a cap) wA) := by show Below _ _ _; rw [hwA]; exact below_a' (below_call HB.out hb1) _
      have HA : Hid (Has wA w1.heap.size #[.int .i64 (c1 : Int), .int .i64 (f1 : Int), .int .i64 (n1 : Int)]) := by show Has _ _ _; rw [hwA]; exact Has.new _ _ _
      have HR1 : Hid (Has wA (w.heap.size + 1 + 1) #[.func (.func 29) #[] #[], .func (.func 30) #[] #[], .func (.func 31) #[] #[], .func (.func 32) #[] #[], .func (.func 33) #[] #[], .func (.func 34) #[] #[]]) := by show Has _ _ _; rw [hwA]; exact (HR.out.call hb1).alloc _
      rw [← hwA]
      clear hwA hb1
      have a0 : wA.cell? ⟨w1.heap.size, 0, none⟩ = some (.int .i64 (c1 : Int)) := HA.out.cell 0 rfl
      have a1 : wA.cell? ⟨w1.heap.size, 1, none⟩ = some (.int .i64 (f1 : Int)) := HA.out.cell 1 rfl
      have a2 : wA.cell? ⟨w1.heap.size, 2, none⟩ = some (.int .i64 (n1 : Int)) := HA.out.cell 2 rfl
      by_cases c0 : c1 = 0
      · have hz := HL1.out.nil c0
        have HN1 : Hid (∀ j, j < 3 + 1 → ∀ y, ¬ BadI u j y) := fun j hj => by
          by_cases e : j = 3
          · subst e
            have h := HL1.out
            rw [hz] at h
            exact h.none
          · exact HN.out j (by omega)
        obtain ⟨rfl, rfl, rfl⟩ : c1 = 0 ∧ f1 = 0 ∧ n1 = 0 := by simpa [ft0] using hz
        clear hz HL1 c0
        go_wp2_with fail
        go_roundw
        case rel => exact ⟨3 + 1, by omega, by go_num, HN1, HB1, HR1⟩
        case measure => simp [intOf]
      · have s0 := (fx_row HB1.out).cell (i := 0) (by omega)
        have s1 := (fx_row HB1.out).cell (i := 1) (by omega)
        have s2 := (fx_row HB1.out).cell (i := 2) (by omega)
        have sz := (fx_row HB1.out).frozen
        have HQ : Hid (Least (BadU u) ⟨c1, f1, n1⟩) := badU_at (by omega) HN.out HL1.out c0
        have q1 : ((c1 : Int) == 0) = false := by simp; omega
        have q2 : ((c1 : Int) != 0) = true := by simp; omega
        go_wp2_with fail
        refine bodyPost_ret (v := ftV ⟨c1, f1, n1⟩) (by simp [results, Tryz.results18, go_sem, s0, s1, s2]) rfl ?_
        exact FtPost.of HQ.out (fx_out (fx_below HB1.out) _ _ _)
    · have g0 : wr.cell? ⟨w.heap.size + 1 + 1, 4, none⟩ = some (.func (.func 33) #[] #[]) := HR.out.cell 4 rfl
      have LK : Hid (Calls Tryz.prog 33 #[unV u a cap] wr fun e w' => FtPost (BadI u 4) wr e w') := nestFault_of HD.out L u a cap fas wr (u5_of (u3_of (HN.out 0 (by omega)) (HN.out 1 (by omega)) (HN.out 2 (by omega))) (HN.out 3 (by omega))) (HT.out.below hW)
      go_upto_region 5 with (go_at_call 33; refine LK.out.mono ?_; rintro e w1 ⟨⟨c1, f1, n1⟩, rfl, hL1, hb1⟩; have HL1 : Hid (Least (BadI u 4) ⟨c1, f1, n1⟩) := hL1; clear hL1)
      clear g0 f0 hW LK
      obtain ⟨wA, hwA⟩ : ∃ wA, wA = w1.alloc (.cells #[.int .i64 (c1 : Int), .int .i64 (f1 : Int), .int .i64 (n1 : Int)] 39) := ⟨_, rfl⟩
      have HB1 : Hid (Below (fxW w u a cap).heap.size (fxW w u a cap) wA) := by show Below _ _ _; rw [hwA]; exact below_a' (below_call HB.out hb1) _
      have HA : Hid (Has wA w1.heap.size #[.int .i64 (c1 : Int), .int .i64 (f1 : Int), .int .i64 (n1 : Int)]) := by show Has _ _ _; rw [hwA]; exact Has.new _ _ _
      have HR1 : Hid (Has wA (w.heap.size + 1 + 1) #[.func (.func 29) #[] #[], .func (.func 30) #[] #[], .func (.func 31) #[] #[], .func (.func 32) #[] #[], .func (.func 33) #[] #[], .func (.func 34) #[] #[]]) := by show Has _ _ _; rw [hwA]; exact (HR.out.call hb1).alloc _
      rw [← hwA]
      clear hwA hb1
      have a0 : wA.cell? ⟨w1.heap.size, 0, none⟩ = some (.int .i64 (c1 : Int)) := HA.out.cell 0 rfl
      have a1 : wA.cell? ⟨w1.heap.size, 1, none⟩ = some (.int .i64 (f1 : Int)) := HA.out.cell 1 rfl
      have a2 : wA.cell? ⟨w1.heap.size, 2, none⟩ = some (.int .i64 (n1 : Int)) := HA.out.cell 2 rfl
      by_cases c0 : c1 = 0
      · have hz := HL1.out.nil c0
        have HN1 : Hid (∀ j, j < 4 + 1 → ∀ y, ¬ BadI u j y) := fun j hj => by
          by_cases e : j = 4
          · subst e
            have h := HL1.out
            rw [hz] at h
            exact h.none
          · exact HN.out j (by omega)
        obtain ⟨rfl, rfl, rfl⟩ : c1 = 0 ∧ f1 = 0 ∧ n1 = 0 := by simpa [ft0] using hz
        clear hz HL1 c0
        go_wp2_with fail
        go_roundw
        case rel => exact ⟨4 + 1, by omega, by go_num, HN1, HB1, HR1⟩
        case measure => simp [intOf]
      · have s0 := (fx_row HB1.out).cell (i := 0) (by omega)
        have s1 := (fx_row HB1.out).cell (i := 1) (by omega)
        have s2 := (fx_row HB1.out).cell (i := 2) (by omega)
        have sz := (fx_row HB1.out).frozen
        have HQ : Hid (Least (BadU u) ⟨c1, f1, n1⟩) := badU_at (by omega) HN.out HL1.out c0
        have q1 : ((c1 : Int) == 0) = false := by simp; omega
        have q2 : ((c1 : Int) != 0) = true := by simp; omega
        go_wp2_with fail
        refine bodyPost_ret (v := ftV ⟨c1, f1, n1⟩) (by simp [results, Tryz.results18, go_sem, s0, s1, s2]) rfl ?_
        exact FtPost.of HQ.out (fx_out (fx_below HB1.out) _ _ _)
    · have g0 : wr.cell? ⟨w.heap.size + 1 + 1, 5, none⟩ = some (.func (.func 34) #[] #[]) := HR.out.cell 5 rfl
      have LK : Hid (Calls Tryz.prog 34 #[unV u a cap] wr fun e w' => FtPost (BadI u 5) wr e w') := HX.out L u a cap fas wr HS.out (u5_of (u3_of (HN.out 0 (by omega)) (HN.out 1 (by omega)) (HN.out 2 (by omega))) (HN.out 3 (by omega))) (HN.out 4 (by omega)) HC.out (HT.out.below hW)
      go_upto_region 5 with (go_at_call 34; refine LK.out.mono ?_; rintro e w1 ⟨⟨c1, f1, n1⟩, rfl, hL1, hb1⟩; have HL1 : Hid (Least (BadI u 5) ⟨c1, f1, n1⟩) := hL1; clear hL1)
      clear g0 f0 hW LK
      obtain ⟨wA, hwA⟩ : ∃ wA, wA = w1.alloc (.cells #[.int .i64 (c1 : Int), .int .i64 (f1 : Int), .int .i64 (n1 : Int)] 39) := ⟨_, rfl⟩
      have HB1 : Hid (Below (fxW w u a cap).heap.size (fxW w u a cap) wA) := by show Below _ _ _; rw [hwA]; exact below_a' (below_call HB.out hb1) _
      have HA : Hid (Has wA w1.heap.size #[.int .i64 (c1 : Int), .int .i64 (f1 : Int), .int .i64 (n1 : Int)]) := by show Has _ _ _; rw [hwA]; exact Has.new _ _ _
      have HR1 : Hid (Has wA (w.heap.size + 1 + 1) #[.func (.func 29) #[] #[], .func (.func 30) #[] #[], .func (.func 31) #[] #[], .func (.func 32) #[] #[], .func (.func 33) #[] #[], .func (.func 34) #[] #[]]) := by show Has _ _ _; rw [hwA]; exact (HR.out.call hb1).alloc _
      rw [← hwA]
      clear hwA hb1
      have a0 : wA.cell? ⟨w1.heap.size, 0, none⟩ = some (.int .i64 (c1 : Int)) := HA.out.cell 0 rfl
      have a1 : wA.cell? ⟨w1.heap.size, 1, none⟩ = some (.int .i64 (f1 : Int)) := HA.out.cell 1 rfl
      have a2 : wA.cell? ⟨w1.heap.size, 2, none⟩ = some (.int .i64 (n1 : Int)) := HA.out.cell 2 rfl
      by_cases c0 : c1 = 0
      · have hz := HL1.out.nil c0
        have HN1 : Hid (∀ j, j < 5 + 1 → ∀ y, ¬ BadI u j y) := fun j hj => by
          by_cases e : j = 5
          · subst e
            have h := HL1.out
            rw [hz] at h
            exact h.none
          · exact HN.out j (by omega)
        obtain ⟨rfl, rfl, rfl⟩ : c1 = 0 ∧ f1 = 0 ∧ n1 = 0 := by simpa [ft0] using hz
        clear hz HL1 c0
        go_wp2_with fail
        go_roundw
        case rel => exact ⟨5 + 1, by omega, by go_num, HN1, HB1, HR1⟩
        case measure => simp [intOf]
      · have s0 := (fx_row HB1.out).cell (i := 0) (by omega)
        have s1 := (fx_row HB1.out).cell (i := 1) (by omega)
        have s2 := (fx_row HB1.out).cell (i := 2) (by omega)
        have sz := (fx_row HB1.out).frozen
        have HQ : Hid (Least (BadU u) ⟨c1, f1, n1⟩) := badU_at (by omega) HN.out HL1.out c0
        have q1 : ((c1 : Int) == 0) = false := by simp; omega
        have q2 : ((c1 : Int) != 0) = true := by simp; omega
        go_wp2_with fail
        refine bodyPost_ret (v := ftV ⟨c1, f1, n1⟩) (by simp [results, Tryz.results18, go_sem, s0, s1, s2]) rfl ?_
        exact FtPost.of HQ.out (fx_out (fx_below HB1.out) _ _ _)
    · have HL : Hid (Least (BadU u) ⟨0, 0, 0⟩) := badU_no HN.out
      have s0 := (fx_row HB.out).cell (i := 0) (by omega)
      have s1 := (fx_row HB.out).cell (i := 1) (by omega)
      have s2 := (fx_row HB.out).cell (i := 2) (by omega)
      have sz := (fx_row HB.out).frozen
      go_wp2_with fail
      refine bodyPost_ret (v := ftV ⟨0, 0, 0⟩) (by simp [results, Tryz.results18, go_sem, s0, s1, s2]) rfl ?_
      exact FtPost.of HL.out (fx_out (fx_below HB.out) _ _ _)
end Go.Proofs.YtcpjnddkibbddaaGreat

/-! The program's check of a unit: nodes from the last one down (an iterator). -/
namespace Go.Proofs.YtcpjnddkibbddaaGreat
open Go.RowKit Go.Shelf
attribute [local go_sem] run_store_float
attribute [local go_sem] Oper.semAt_some

set_option maxRecDepth 100000 in
set_option maxHeartbeats 2000000 in
theorem backward_in (F : Fence) (n : Nat) (hF : F.fn 110) (hro : F.round = none) (a : Option Addr) (m cap : Nat) (w : World) :
    CallsIn F n Tryz.prog 110 #[.slice a m cap] w fun e w' => e = .returned (.func (.func 150) #[] #[.pointer (some ⟨w.heap.size, 0, none⟩)]) ∧ w' = w.alloc (.cells #[.slice a m cap] 43) := by
  refine callsIn_of_wp Tryz.func110 rfl hF ?_ hro
  simp only [Tryz.ntmps110, List.size_toArray, List.length_cons, List.length_nil, Nat.reduceAdd, Nat.reduceSub, Array.replicate_succ, Array.replicate_zero, List.push_toArray, List.append_toArray, List.nil_append, List.cons_append]
  gi_wp2
  go_ret
  exact ⟨rfl, rfl⟩

/-- all below N but block B stays -/
structure KN (N B : Nat) (X Y : World) : Prop where
  size : X.heap.size ≤ Y.heap.size
  block : ∀ k, k < N → k ≠ B → Y.heap[k]? = X.heap[k]?
theorem KN.refl (N B : Nat) (X : World) : KN N B X X := ⟨Nat.le_refl _, fun _ _ _ => rfl⟩
theorem KN.trans {N B : Nat} {X Y Z : World} (h : KN N B X Y) (k : KN N B Y Z) : KN N B X Z := ⟨Nat.le_trans h.size k.size, fun i h1 h2 => (k.block i h1 h2).trans (h.block i h1 h2)⟩
theorem KN.of {N B : Nat} {X Y : World} (h : Below N X Y) : KN N B X Y := ⟨h.size, fun i h1 _ => h.block i h1⟩
theorem KN.cell {N B : Nat} {X Y : World} (h : KN N B X Y) {p : Addr} (h1 : p.block < N) (h2 : p.block ≠ B) : Y.cell? p = X.cell? p := World.cell?_of_block (h.block _ h1 h2)
/-- the numbers from the last down -/
def downL (n k : Nat) : List Nat := (List.range k).map fun j => n - 1 - j
theorem downL_len (n k : Nat) : (downL n k).length = k := by simp [downL]
theorem downL_succ (n k : Nat) : downL n (k + 1) = downL n k ++ [n - 1 - k] := by simp [downL, List.range_succ]

set_option maxRecDepth 100000 in
set_option maxHeartbeats 4000000 in
theorem backward1_in (F : Fence) (m : Nat) (hF : F.fn 150) (hro : F.round = none) (hm : 1 ≤ m) (l P1 B : Nat) (a : Option Addr) (n cap : Nat) (nd : Nat → ND) (nas : Nat → NA) (hn : n ≤ 3000) (J Jx : List (Fin n) → World → Prop) (w W : World)
    (hW : Below w.heap.size w W)
    (hY : ∀ (pre : List (Fin n)) (x : Fin n) (W1 : World), J pre W1 → pre.length < n → YieldAt F (m - 1) Tryz.prog l #[.int .i64 (x.val : Int), nodeV (nd x.val) (nas x.val)] W1 fun e W' =>
      (e = .returned (.bool true) ∧ J (pre ++ [x]) W' ∧ KN w.heap.size B W1 W') ∨ (e = .returned (.bool false) ∧ Jx (pre ++ [x]) W'))
    (hP1 : P1 < w.heap.size) (hPB : P1 ≠ B) (hbB : ∀ b off, 0 < n → a = some ⟨b, off, none⟩ → b ≠ B)
    (c1 : w.cell? ⟨P1, 0, none⟩ = some (.slice a n cap)) (hT : RowN 8 0 w a n fun i => nodeC (nd i) (nas i)) (h0 : J [] W) :
    CallsIn F m Tryz.prog 150 #[.func (.yield l) #[] #[], .pointer (some ⟨P1, 0, none⟩)] W fun e W' => (∃ v, e = .returned v) ∧
      ((∃ ys, ys.map Fin.val = downL n n ∧ J ys W') ∨ (∃ pre, True ∧ Jx pre W')) := by
  have HT : Hid (RowN 8 0 w a n fun i => nodeC (nd i) (nas i)) := hT
  have d1 := (hW.cell (p := ⟨P1, 0, none⟩) hP1).trans c1
  have HY : Hid (∀ (pre : List (Fin n)) (x : Fin n) (W1 : World), J pre W1 → pre.length < n → YieldAt F (m - 1) Tryz.prog l #[.int .i64 (x.val : Int), nodeV (nd x.val) (nas x.val)] W1 fun e W' =>
      (e = .returned (.bool true) ∧ J (pre ++ [x]) W' ∧ KN w.heap.size B W1 W') ∨ (e = .returned (.bool false) ∧ Jx (pre ++ [x]) W')) := hY
  clear hT hY
  refine callsIn_of_wp Tryz.func150 rfl hF ?_ hro
  simp only [Tryz.ntmps150, List.size_toArray, List.length_cons, List.length_nil, Nat.reduceAdd, Nat.reduceSub, Array.replicate_succ, Array.replicate_zero, List.push_toArray, List.append_toArray, List.nil_append, List.cons_append]
  gi_wp2
  gi_loopw [3] (fun i wr => ∃ (k : Nat) (pre : List (Fin n)), k ≤ n ∧ i = .int .i64 ((n : Int) - 1 - k) ∧ Hid (pre.map Fin.val = downL n k) ∧ J pre wr ∧ KN w.heap.size B w wr)
    (fun i _ => (intOf i + 1).toNat)
  case atStart => exact ⟨0, [], Nat.zero_le _, by go_num, rfl, h0, KN.of hW⟩
  case round =>
    obtain ⟨k, pre, hk, rfl, HP, hJs, hnx⟩ := hrel
    have HJs : Hid (J pre wr) := hJs
    clear hJs
    by_cases hkn : k < n
    · obtain ⟨x, hx⟩ : ∃ x : Nat, (n : Int) - 1 - k = x := ⟨n - 1 - k, by omega⟩
      have hxe : x = n - 1 - k := by omega
      have hxn : x < n := by omega
      rw [hx]
      obtain ⟨b, off, rfl, _, hb, hc⟩ := HT.out (by omega)
      have hbB := hbB b off (by omega) rfl
      have e1 := (hnx.cell (p := ⟨P1, 0, none⟩) hP1 hPB).trans c1
      have hc' : ∀ j, j < 8 → wr.cell? ⟨b, off + x * 8 + j, none⟩ = (nodeC (nd x) (nas x))[j]? := fun j hj => (hnx.cell (p := ⟨b, off + x * 8 + j, none⟩) hb hbB).trans (hc x hxn j hj)
      have g0 := hc' 0 (by omega)
      have g1 := hc' 1 (by omega)
      have g2 := hc' 2 (by omega)
      have g3 := hc' 3 (by omega)
      have g4 := hc' 4 (by omega)
      have g5 := hc' 5 (by omega)
      have g6 := hc' 6 (by omega)
      have g7 := hc' 7 (by omega)
      simp only [List.getElem?_toArray, List.getElem?_cons_zero, List.getElem?_cons_succ, Nat.add_zero] at g0 g1 g2 g3 g4 g5 g6 g7
      clear hc' c1 d1 hc
      have hpl : pre.length = k := by rw [← List.length_map (f := Fin.val), HP.out, downL_len]
      obtain ⟨fn, tmps, assign, body, hy, hR⟩ := HY.out _ ⟨x, hxn⟩ _ HJs.out (by omega)
      clear hpl
      have HX : Hid ((pre ++ [(⟨x, hxn⟩ : Fin n)]).map Fin.val = downL n (k + 1)) := by show _ = _; rw [List.map_append, HP.out, downL_succ, ← hxe]; rfl
      clear hxe
      gi_wp2
      refine hR.mono ?_
      rintro e W3 (⟨rfl, hJ3, hk3⟩ | ⟨rfl, hJx3⟩)
      · gi_wp2
        go_roundw
        case rel => exact ⟨k + 1, _, by omega, by have := hx; go_num, HX, hJ3, hnx.trans hk3⟩
        case measure => simp [intOf]
      · gi_wp2
        refine bodyPost_ret (results_none rfl _ _ _) rfl ?_
        exact ⟨⟨_, rfl⟩, .inr ⟨_, trivial, hJx3⟩⟩
    · obtain rfl : k = n := by omega
      gi_wp2
      go_end0
      exact ⟨⟨_, rfl⟩, .inl ⟨_, HP.out, HJs.out⟩⟩

theorem backward_stops (F : Fence) (m : Nat) (hF : F.fn 150) (hro : F.round = none) (hm : 1 ≤ m) (P1 B : Nat) (a : Option Addr) (n cap : Nat) (nd : Nat → ND) (nas : Nat → NA) (hn : n ≤ 3000) (w : World)
    (hP1 : P1 < w.heap.size) (hPB : P1 ≠ B) (hbB : ∀ b off, 0 < n → a = some ⟨b, off, none⟩ → b ≠ B)
    (c1 : w.cell? ⟨P1, 0, none⟩ = some (.slice a n cap)) (hT : RowN 8 0 w a n fun i => nodeC (nd i) (nas i)) :
    SeqStopsK F m Tryz.prog 150 #[.pointer (some ⟨P1, 0, none⟩)] (fun x : Fin n => #[.int .i64 (x.val : Int), nodeV (nd x.val) (nas x.val)]) (KN w.heap.size B) (fun ys => ys.map Fin.val = downL n n) (fun _ => True) n w := fun l J Jx W hW _ _ hY h0 =>
  backward1_in F m hF hro hm l P1 B a n cap nd nas hn J Jx w W hW hY hP1 hPB hbB c1 hT h0
end Go.Proofs.YtcpjnddkibbddaaGreat
