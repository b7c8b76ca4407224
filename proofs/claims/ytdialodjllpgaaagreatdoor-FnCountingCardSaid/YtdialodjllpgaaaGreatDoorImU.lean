import Derived.Test.YtdialodjllpgaaaGreatDoorImS
import Derived.Test.YtdialodjllpgaaaGreatDoorBdA
import Derived.Test.YtdialodjllpgaaaGreatDoorFitP
import Derived.Test.YtdialodjllpgaaaGreatDoorImP
import Derived.Test.YtdialodjllpgaaaGreatDoorBdC
import Derived.Test.YtdialodjllpgaaaGreatDoorThB
/-! The program's check of a unit: forms. -/
namespace Go.Proofs.YtdialodjllpgaaaGreatDoor
open Go.RowKit
attribute [local go_sem] run_store_float
attribute [local go_sem ↓] Go.wp_at_zero Go.wp_at_succ

def FormBad (u : UD) (f n : Nat) : Prop := shB (u.fn f).nd n = false
theorem bad3_yes {u : UD} {f n : Nat} (hf : f < u.n) (hn : n < (u.fn f).nn) (h3 : ∀ f', f' < f → ∀ n', n' < (u.fn f').nn → ¬ FormBad u f' n') (h4 : ∀ n', n' < n → ¬ FormBad u f n') (h5 : FormBad u f n) : Least (Bad3 u) ⟨3, f, n⟩ := At2.least (by decide) h3 h4 hf hn h5
theorem bad3_no {u : UD} (h2 : ∀ f', f' < u.n → ∀ n', n' < (u.fn f').nn → ¬ FormBad u f' n') : Least (Bad3 u) ft0 := Least.zero (At2.none h2)

set_option maxRecDepth 100000 in
set_option maxHeartbeats 4000000 in
theorem formFault_calls (L : Nat) (u : UD) (a : Option Addr) (cap : Nat) (fas : Nat → FA) (w : World) (hs : u.sm) (hz : SizeOk u) (hc : ∀ i, i < u.n → CapF (u.fn i) (fas i)) (hT : FnsAt L w u.n u.fn a fas) :
    Calls Tryz.prog 36 #[unV u a cap] w fun e w' => FtPost (Bad3 u) w e w' := by
  have HT : Hid (FnsAt L w u.n u.fn a fas) := hT
  have HS : Hid u.sm := hs
  have HZ : Hid (SizeOk u) := hz
  have HC : Hid (∀ i, i < u.n → CapF (u.fn i) (fas i)) := hc
  have hun := hz.2.1
  obtain ⟨b, off, e0, _, hb, _⟩ := cells7 hT.1 (show 0 < u.n from hz.1)
  subst e0
  clear hT hs hz hc
  have ez : Hid ((fxW w u (some ⟨b, off, none⟩) cap).heap.size = w.heap.size + 1 + 1) := by show _ = _; simp
  go_enter Tryz.func36, Tryz.ntmps36
  go_wp2_with (go_at_call 73; refine (newForms_calls _).mono ?_; rintro e w1 ⟨rfl, hw1⟩; have HB1 : Hid (Below (fxW w u (some ⟨b, off, none⟩) cap).heap.size (fxW w u (some ⟨b, off, none⟩) cap) w1) := (by show Below _ _ _; rw [hw1]; exact below_alloc _ _); have HF1 : Hid (∃ s, FRow w1 (w.heap.size + 1 + 1) s) := (by have h := FRow.new (fxW w u (some ⟨b, off, none⟩) cap); rw [← hw1, ez.out] at h; exact ⟨_, h⟩); have u0 := (fx_u HB1.out).cell 0 rfl; clear hw1)
  clear u0
  go_loopw [11] (fun i wr => ∃ (k : Nat), k ≤ u.n ∧ i = .int .i64 k ∧ Hid (∀ f', f' < k → ∀ n', n' < (u.fn f').nn → ¬ FormBad u f' n') ∧ Hid (Below (fxW w u (some ⟨b, off, none⟩) cap).heap.size (fxW w u (some ⟨b, off, none⟩) cap) wr) ∧ Hid (∃ s, FRow wr (w.heap.size + 1 + 1) s)) (fun i _ => u.n - (intOf i).toNat)
  case atStart => exact ⟨0, Nat.zero_le _, rfl, fun f' hf' => by omega, HB1, HF1⟩
  case round =>
    clear HB1 HF1
    obtain ⟨k, hk, rfl, HF, HB, HV⟩ := hrel
    by_cases hkn : k < u.n
    · have HTr : Hid (FnsAt L wr u.n u.fn (some ⟨b, off, none⟩) fas) := HT.out.below (fx_below HB.out)
      obtain ⟨b', off', e0, _, hbz, d0, d1, d2, d3, d4, d5, d6⟩ := cells7 HTr.out.1 hkn
      obtain ⟨rfl, rfl⟩ : b = b' ∧ off = off' := by simpa using e0
      clear e0
      have hnn : (u.fn k).nn ≤ 3000 := Nat.le_trans (tot_le u.fn u.n k hkn) HZ.out.2.2
      rename World => wa
      have hFw : w.heap.size + 1 + 1 < wa.heap.size := by obtain ⟨s, h⟩ := HV.out; exact World.rowIs.lt h
      have HX0 : Hid (Has (wa.alloc (.cells (fnC (u.fn k) (fas k)) 90)) wa.heap.size (fnC (u.fn k) (fas k))) := Has.new _ _ _
      have HB0 : Hid (Below (fxW w u (some ⟨b, off, none⟩) cap).heap.size (fxW w u (some ⟨b, off, none⟩) cap) (wa.alloc (.cells (fnC (u.fn k) (fas k)) 90))) := below_a' HB.out _
      have HV0 : Hid (∃ s, FRow (wa.alloc (.cells (fnC (u.fn k) (fas k)) 90)) (w.heap.size + 1 + 1) s) := by obtain ⟨s, h⟩ := HV.out; exact ⟨s, h.alloc _⟩
      go_wp2_with fail
      clear d0 d1 d2 d3 d4 d5 d6
      go_loopw [19] (fun i wr => ∃ (m : Nat), m ≤ (u.fn k).nn ∧ i = .int .i64 m ∧ Hid (∀ n', n' < m → ¬ FormBad u k n') ∧ Hid (Below (fxW w u (some ⟨b, off, none⟩) cap).heap.size (fxW w u (some ⟨b, off, none⟩) cap) wr) ∧ Hid (∃ s, FRow wr (w.heap.size + 1 + 1) s) ∧ Hid (Has wr wa.heap.size (fnC (u.fn k) (fas k)))) (fun i _ => (u.fn k).nn - (intOf i).toNat)
      case atStart => exact ⟨0, Nat.zero_le _, rfl, fun f' hf' => by omega, HB0, HV0, HX0⟩
      case round =>
        clear HB HV HTr HX0 HB0 HV0
        obtain ⟨m, hm, rfl, HN, HB, HV, HX⟩ := hrel
        by_cases hmn : m < (u.fn k).nn
        · have y6 : wr.cell? ⟨wa.heap.size, 6, none⟩ = some (.slice (fas k).na (u.fn k).nn (fas k).nc) := HX.out.cell 6 rfl
          obtain ⟨s, hs⟩ := HV.out
          have HC1 := (HC.out k hkn)
          have HN0 : Hid (NodesAt 0 (fxW w u (some ⟨b, off, none⟩) cap) (u.fn k).nn (u.fn k).nd (fas k).na (fas k).nas) := ((HT.out.below (fx_below (Below.refl _ _))).2 k hkn).2.2.less (Nat.zero_le _)
          have HFC : Hid (Calls Tryz.prog 74 #[.pointer (some ⟨w.heap.size + 1 + 1, 0, none⟩), .slice (fas k).na (u.fn k).nn (fas k).nc, .int .i64 m] wr fun e w' => FitPost (u.fn k).nd m (w.heap.size + 1 + 1) wr e w') := fits_calls (w.heap.size + 1 + 1) (u.fn k).nn (u.fn k).nd (fas k).na (fas k).nc (fas k).nas m s (fxW w u (some ⟨b, off, none⟩) cap) wr hmn (by omega) HC1.1 ((HS.out.fn k hkn).nd m hmn) (HC1.2 m hmn) HN0.out (Nat.le_of_eq ez.out) HB.out hs
          clear hs HC1 HN0
          cases hfb : fitB (u.fn k).nd m
          · have HL : Hid (Least (Bad3 u) ⟨3, k, m⟩) := bad3_yes hkn hmn HF.out HN.out (by show shB _ _ = false; rw [← fit_sh]; exact hfb)
            go_wp2_with (go_at_call 74; refine HFC.out.mono ?_; unfold FitPost; rw [hfb]; rintro e w8 ⟨rfl, hF8, hk8⟩; have HB8 : Hid (Below (fxW w u (some ⟨b, off, none⟩) cap).heap.size (fxW w u (some ⟨b, off, none⟩) cap) w8) := HB.out.trans (hk8.low.mono (Nat.le_of_eq ez.out)); have s0 := (fx_row HB8.out).cell (i := 0) (by omega); have s1 := (fx_row HB8.out).cell (i := 1) (by omega); have s2 := (fx_row HB8.out).cell (i := 2) (by omega); have sz := (fx_row HB8.out).frozen)
            refine bodyPost_ret (v := ftV ⟨3, k, m⟩) (by simp [results, Tryz.results36, go_sem, s0, s1, s2]) rfl ?_
            exact FtPost.of HL.out (fx_out (fx_below HB8.out) _ _ _)
          · have HG : Hid (¬ FormBad u k m) := by
              show ¬ (shB _ _ = false)
              rw [← fit_sh, hfb]
              simp
            go_wp2_with (go_at_call 74; refine HFC.out.mono ?_; unfold FitPost; rw [hfb]; rintro e w8 ⟨rfl, hF8, hk8⟩; have HV8 : Hid (∃ s, FRow w8 (w.heap.size + 1 + 1) s) := hF8; have HK8 : Hid (KB (w.heap.size + 1 + 1) wr w8) := hk8; clear hF8 hk8)
            have HB8 : Hid (Below (fxW w u (some ⟨b, off, none⟩) cap).heap.size (fxW w u (some ⟨b, off, none⟩) cap) w8) := HB.out.trans (HK8.out.low.mono (Nat.le_of_eq ez.out))
            have HX8 : Hid (Has w8 wa.heap.size (fnC (u.fn k) (fas k))) := HK8.out.has _ _ (by omega) HX.out
            go_roundw
            case rel => exact ⟨m + 1, by omega, by go_num, fun j hj => by
              by_cases e : j = m
              · subst e; exact HG.out
              · exact HN.out j (by omega), HB8, HV8, HX8⟩
            case measure => simp [intOf]; omega
        · obtain rfl : m = (u.fn k).nn := by omega
          go_wp2_with fail
          go_roundw
          case rel => exact ⟨k + 1, by omega, by go_num, fun j hj => by
            by_cases e : j = k
            · subst e; exact HN.out
            · exact HF.out j (by omega), HB, HV⟩
          case measure => simp [intOf]; omega
    · obtain rfl : k = u.n := by omega
      have HL : Hid (Least (Bad3 u) ⟨0, 0, 0⟩) := bad3_no HF.out
      have s0 := (fx_row HB.out).cell (i := 0) (by omega)
      have s1 := (fx_row HB.out).cell (i := 1) (by omega)
      have s2 := (fx_row HB.out).cell (i := 2) (by omega)
      have sz := (fx_row HB.out).frozen
      go_wp2_with fail
      refine bodyPost_ret (v := ftV ⟨0, 0, 0⟩) (by simp [results, Tryz.results36, go_sem, s0, s1, s2]) rfl ?_
      exact FtPost.of HL.out (fx_out (fx_below HB.out) _ _ _)
end Go.Proofs.YtdialodjllpgaaaGreatDoor

/-! The program's check of a unit, given what depthsOf and scopeFault answer. -/
namespace Go.Proofs.YtdialodjllpgaaaGreatDoor
open Go.RowKit
attribute [local go_sem] run_store_float
attribute [local go_sem ↓] Go.wp_at_zero Go.wp_at_succ

def BadI (u : UD) : Nat → FT → Prop
  | 0 => Bad1 u
  | 1 => Bad2 u
  | 2 => Bad3 u
  | 3 => Bad4 u
  | 4 => Bad5 u
  | _ => BadS u
theorem badU_i {u : UD} {y : FT} (h : BadU u y) : ∃ j, j < 6 ∧ BadI u j y := by
  rcases h with h | h | h | h | h | h
  · exact ⟨0, by omega, h⟩
  · exact ⟨1, by omega, h⟩
  · exact ⟨2, by omega, h⟩
  · exact ⟨3, by omega, h⟩
  · exact ⟨4, by omega, h⟩
  · exact ⟨5, by omega, h⟩
theorem badI_u {u : UD} {y : FT} {j : Nat} (hj : j < 6) (h : BadI u j y) : BadU u y := by
  rcases (show j = 0 ∨ j = 1 ∨ j = 2 ∨ j = 3 ∨ j = 4 ∨ j = 5 by omega) with rfl | rfl | rfl | rfl | rfl | rfl
  · exact .inl h
  · exact .inr (.inl h)
  · exact .inr (.inr (.inl h))
  · exact .inr (.inr (.inr (.inl h)))
  · exact .inr (.inr (.inr (.inr (.inl h))))
  · exact .inr (.inr (.inr (.inr (.inr h))))
theorem badI_code {u : UD} {y : FT} {j : Nat} (hj : j < 6) (h : BadI u j y) : j + 1 ≤ y.c ∧ (j < 5 → y.c = j + 1) := by
  rcases (show j = 0 ∨ j = 1 ∨ j = 2 ∨ j = 3 ∨ j = 4 ∨ j = 5 by omega) with rfl | rfl | rfl | rfl | rfl | rfl
  · have := h.1; omega
  · have := h.1; omega
  · have := h.1; omega
  · have := h.1; omega
  · have := h.1; omega
  · have := badS_code h; omega
theorem badU_at {u : UD} {k : Nat} {x : FT} (hk : k < 6) (hn : ∀ j, j < k → ∀ y, ¬ BadI u j y) (h : Least (BadI u k) x) (h0 : x.c ≠ 0) : Least (BadU u) x := by
  have hx := h.in h0
  refine .inr ⟨by omega, badI_u hk hx, fun y hy => ?_⟩
  obtain ⟨j, hj, hy⟩ := badU_i hy
  by_cases e : j < k
  · exact absurd hy (hn j e y)
  · by_cases e2 : j = k
    · subst e2
      rcases h with ⟨rfl, _⟩ | ⟨_, _, h⟩
      · exact absurd rfl h0
      · exact h y hy
    · have h1 := badI_code hk hx
      have h2 := badI_code hj hy
      exact .inl (by have := h1.2 (by omega); omega)
theorem badU_no {u : UD} (hn : ∀ j, j < 6 → ∀ y, ¬ BadI u j y) : Least (BadU u) ft0 := Least.zero fun y hy => by
  obtain ⟨j, hj, hy⟩ := badU_i hy
  exact hn j hj y hy
theorem sz_of {u : UD} (h1 : ∀ y, ¬ Bad1 u y) : SizeOk u := Classical.byContradiction fun h => At2.no h1 0 (by omega) 0 (by omega) h
/-- what scopeFault is to answer (not shown here) -/
def ScopeSays : Prop := ∀ (L : Nat) (u : UD) (a : Option Addr) (cap : Nat) (fas : Nat → FA) (w : World), u.sm → U5 u → (∀ y, ¬ Bad5 u y) → (∀ i, i < u.n → CapF (u.fn i) (fas i)) → FnsAt L w u.n u.fn a fas →
  Calls Tryz.prog 39 #[unV u a cap] w fun e w' => FtPost (BadS u) w e w'

set_option maxRecDepth 100000 in
set_option maxHeartbeats 4000000 in
theorem checkUnit_of (hD : DepSays) (hX : ScopeSays) (L : Nat) (u : UD) (a : Option Addr) (cap : Nat) (fas : Nat → FA) (w : World) (hs : u.sm) (hc : ∀ i, i < u.n → CapF (u.fn i) (fas i)) (hT : FnsAt L w u.n u.fn a fas) :
    Calls Tryz.prog 20 #[unV u a cap] w fun e w' => FtPost (BadU u) w e w' := by
  have HD : Hid DepSays := hD
  have HX : Hid ScopeSays := hX
  have HT : Hid (FnsAt L w u.n u.fn a fas) := hT
  have HS : Hid u.sm := hs
  have HC : Hid (∀ i, i < u.n → CapF (u.fn i) (fas i)) := hc
  clear hT hs hD hX hc
  go_enter Tryz.func20, Tryz.ntmps20
  go_wp2_with fail
  obtain ⟨w3, hw3⟩ : ∃ w3, w3 = (fxW w u a cap).alloc (.cells #[.func (.func 34) #[] #[], .func (.func 35) #[] #[], .func (.func 36) #[] #[], .func (.func 37) #[] #[], .func (.func 38) #[] #[], .func (.func 39) #[] #[]] 60) := ⟨_, rfl⟩
  have HB3 : Hid (Below (fxW w u a cap).heap.size (fxW w u a cap) w3) := by show Below _ _ _; rw [hw3]; exact below_alloc _ _
  have HR3 : Hid (Has w3 (w.heap.size + 1 + 1) #[.func (.func 34) #[] #[], .func (.func 35) #[] #[], .func (.func 36) #[] #[], .func (.func 37) #[] #[], .func (.func 38) #[] #[], .func (.func 39) #[] #[]]) := by
    have h := Has.new (fxW w u a cap) #[.func (.func 34) #[] #[], .func (.func 35) #[] #[], .func (.func 36) #[] #[], .func (.func 37) #[] #[], .func (.func 38) #[] #[], .func (.func 39) #[] #[]] 60
    rw [← hw3] at h
    show Has _ _ _
    simpa using h
  simp only [fxW] at hw3
  rw [← hw3]
  clear hw3
  go_loopw [8] (fun i wr => ∃ (k : Nat), k ≤ 6 ∧ i = .int .i64 k ∧ Hid (∀ j, j < k → ∀ y, ¬ BadI u j y) ∧ Hid (Below (fxW w u a cap).heap.size (fxW w u a cap) wr) ∧ Hid (Has wr (w.heap.size + 1 + 1) #[.func (.func 34) #[] #[], .func (.func 35) #[] #[], .func (.func 36) #[] #[], .func (.func 37) #[] #[], .func (.func 38) #[] #[], .func (.func 39) #[] #[]])) (fun i _ => 6 - (intOf i).toNat)
  case atStart => exact ⟨0, by omega, rfl, fun j hj => by omega, HB3, HR3⟩
  case round =>
    clear HB3 HR3
    obtain ⟨k, hk, rfl, HN, HB, HR⟩ := hrel
    have hW := fx_below HB.out
    have f0 : wr.cell? ⟨w.heap.size, 0, none⟩ = some (.slice a u.n cap) := (fx_u HB.out).cell 0 rfl
    rcases (show k = 0 ∨ k = 1 ∨ k = 2 ∨ k = 3 ∨ k = 4 ∨ k = 5 ∨ k = 6 by omega) with rfl | rfl | rfl | rfl | rfl | rfl | rfl
    · have g0 : wr.cell? ⟨w.heap.size + 1 + 1, 0, none⟩ = some (.func (.func 34) #[] #[]) := HR.out.cell 0 rfl
      have LK : Hid (Calls Tryz.prog 34 #[unV u a cap] wr fun e w' => FtPost (BadI u 0) wr e w') := sizeFault_calls L u a cap fas wr HS.out (HT.out.below hW)
      go_upto_region 5 with (go_at_call 34; refine LK.out.mono ?_; rintro e w1 ⟨⟨c1, f1, n1⟩, rfl, hL1, hb1⟩; have HL1 : Hid (Least (BadI u 0) ⟨c1, f1, n1⟩) := hL1; clear hL1)
      clear g0 f0 hW LK
      obtain ⟨wA, hwA⟩ : ∃ wA, wA = w1.alloc (.cells #[.int .i64 (c1 : Int), .int .i64 (f1 : Int), .int .i64 (n1 : Int)] 59) := ⟨_, rfl⟩
      have HB1 : Hid (Below (fxW w u a cap).heap.size (fxW w u a cap) wA) := by show Below _ _ _; rw [hwA]; exact below_a' (below_call HB.out hb1) _
      have HA : Hid (Has wA w1.heap.size #[.int .i64 (c1 : Int), .int .i64 (f1 : Int), .int .i64 (n1 : Int)]) := by show Has _ _ _; rw [hwA]; exact Has.new _ _ _
      have HR1 : Hid (Has wA (w.heap.size + 1 + 1) #[.func (.func 34) #[] #[], .func (.func 35) #[] #[], .func (.func 36) #[] #[], .func (.func 37) #[] #[], .func (.func 38) #[] #[], .func (.func 39) #[] #[]]) := by show Has _ _ _; rw [hwA]; exact (HR.out.call hb1).alloc _
      rw [← hwA]
      clear hwA hb1
      have a0 : wA.cell? ⟨w1.heap.size, 0, none⟩ = some (.int .i64 (c1 : Int)) := HA.out.cell 0 rfl
      have a1 : wA.cell? ⟨w1.heap.size, 1, none⟩ = some (.int .i64 (f1 : Int)) := HA.out.cell 1 rfl
      have a2 : wA.cell? ⟨w1.heap.size, 2, none⟩ = some (.int .i64 (n1 : Int)) := HA.out.cell 2 rfl
      by_cases c0 : c1 = 0
      · have hz := HL1.out.nil c0
        have HN1 : Hid (∀ j, j < 0 + 1 → ∀ y, ¬ BadI u j y) := fun j hj => by
          by_cases e : j = 0
          · subst e
            have h := HL1.out
            rw [hz] at h
            exact h.none
          · exact HN.out j (by omega)
        obtain ⟨rfl, rfl, rfl⟩ : c1 = 0 ∧ f1 = 0 ∧ n1 = 0 := by simpa [ft0] using hz
        clear hz HL1 c0
        go_wp2_with fail
        go_roundw
        case rel => exact ⟨0 + 1, by omega, by go_num, HN1, HB1, HR1⟩
        case measure => simp [intOf]
      · have s0 := (fx_row HB1.out).cell (i := 0) (by omega)
        have s1 := (fx_row HB1.out).cell (i := 1) (by omega)
        have s2 := (fx_row HB1.out).cell (i := 2) (by omega)
        have sz := (fx_row HB1.out).frozen
        have HQ : Hid (Least (BadU u) ⟨c1, f1, n1⟩) := badU_at (by omega) HN.out HL1.out c0
        have q1 : ((c1 : Int) == 0) = false := by simp; omega
        have q2 : ((c1 : Int) != 0) = true := by simp; omega
        go_wp2_with fail
        refine bodyPost_ret (v := ftV ⟨c1, f1, n1⟩) (by simp [results, Tryz.results20, go_sem, s0, s1, s2]) rfl ?_
        exact FtPost.of HQ.out (fx_out (fx_below HB1.out) _ _ _)
    · have g0 : wr.cell? ⟨w.heap.size + 1 + 1, 1, none⟩ = some (.func (.func 35) #[] #[]) := HR.out.cell 1 rfl
      have LK : Hid (Calls Tryz.prog 35 #[unV u a cap] wr fun e w' => FtPost (BadI u 1) wr e w') := fnFault_calls L u a cap fas wr HS.out (HT.out.below hW)
      go_upto_region 5 with (go_at_call 35; refine LK.out.mono ?_; rintro e w1 ⟨⟨c1, f1, n1⟩, rfl, hL1, hb1⟩; have HL1 : Hid (Least (BadI u 1) ⟨c1, f1, n1⟩) := hL1; clear hL1)
      clear g0 f0 hW LK
      obtain ⟨wA, hwA⟩ : ∃ wA, wA = w1.alloc (.cells #[.int .i64 (c1 : Int), .int .i64 (f1 : Int), .int .i64 (n1 : Int)] 59) := ⟨_, rfl⟩
      have HB1 : Hid (Below (fxW w u a cap).heap.size (fxW w u a cap) wA) := by show Below _ _ _; rw [hwA]; exact below_a' (below_call HB.out hb1) _
      have HA : Hid (Has wA w1.heap.size #[.int .i64 (c1 : Int), .int .i64 (f1 : Int), .int .i64 (n1 : Int)]) := by show Has _ _ _; rw [hwA]; exact Has.new _ _ _
      have HR1 : Hid (Has wA (w.heap.size + 1 + 1) #[.func (.func 34) #[] #[], .func (.func 35) #[] #[], .func (.func 36) #[] #[], .func (.func 37) #[] #[], .func (.func 38) #[] #[], .func (.func 39) #[] #[]]) := by show Has _ _ _; rw [hwA]; exact (HR.out.call hb1).alloc _
      rw [← hwA]
      clear hwA hb1
      have a0 : wA.cell? ⟨w1.heap.size, 0, none⟩ = some (.int .i64 (c1 : Int)) := HA.out.cell 0 rfl
      have a1 : wA.cell? ⟨w1.heap.size, 1, none⟩ = some (.int .i64 (f1 : Int)) := HA.out.cell 1 rfl
      have a2 : wA.cell? ⟨w1.heap.size, 2, none⟩ = some (.int .i64 (n1 : Int)) := HA.out.cell 2 rfl
      by_cases c0 : c1 = 0
      · have hz := HL1.out.nil c0
        have HN1 : Hid (∀ j, j < 1 + 1 → ∀ y, ¬ BadI u j y) := fun j hj => by
          by_cases e : j = 1
          · subst e
            have h := HL1.out
            rw [hz] at h
            exact h.none
          · exact HN.out j (by omega)
        obtain ⟨rfl, rfl, rfl⟩ : c1 = 0 ∧ f1 = 0 ∧ n1 = 0 := by simpa [ft0] using hz
        clear hz HL1 c0
        go_wp2_with fail
        go_roundw
        case rel => exact ⟨1 + 1, by omega, by go_num, HN1, HB1, HR1⟩
        case measure => simp [intOf]
      · have s0 := (fx_row HB1.out).cell (i := 0) (by omega)
        have s1 := (fx_row HB1.out).cell (i := 1) (by omega)
        have s2 := (fx_row HB1.out).cell (i := 2) (by omega)
        have sz := (fx_row HB1.out).frozen
        have HQ : Hid (Least (BadU u) ⟨c1, f1, n1⟩) := badU_at (by omega) HN.out HL1.out c0
        have q1 : ((c1 : Int) == 0) = false := by simp; omega
        have q2 : ((c1 : Int) != 0) = true := by simp; omega
        go_wp2_with fail
        refine bodyPost_ret (v := ftV ⟨c1, f1, n1⟩) (by simp [results, Tryz.results20, go_sem, s0, s1, s2]) rfl ?_
        exact FtPost.of HQ.out (fx_out (fx_below HB1.out) _ _ _)
    · have g0 : wr.cell? ⟨w.heap.size + 1 + 1, 2, none⟩ = some (.func (.func 36) #[] #[]) := HR.out.cell 2 rfl
      have LK : Hid (Calls Tryz.prog 36 #[unV u a cap] wr fun e w' => FtPost (BadI u 2) wr e w') := formFault_calls L u a cap fas wr HS.out (sz_of (HN.out 0 (by omega))) HC.out (HT.out.below hW)
      go_upto_region 5 with (go_at_call 36; refine LK.out.mono ?_; rintro e w1 ⟨⟨c1, f1, n1⟩, rfl, hL1, hb1⟩; have HL1 : Hid (Least (BadI u 2) ⟨c1, f1, n1⟩) := hL1; clear hL1)
      clear g0 f0 hW LK
      obtain ⟨wA, hwA⟩ : ∃ wA, wA = w1.alloc (.cells #[.int .i64 (c1 : Int), .int .i64 (f1 : Int), .int .i64 (n1 : Int)] 59) := ⟨_, rfl⟩
      have HB1 : Hid (Below (fxW w u a cap).heap.size (fxW w u a cap) wA) := by show Below _ _ _; rw [hwA]; exact below_a' (below_call HB.out hb1) _
      have HA : Hid (Has wA w1.heap.size #[.int .i64 (c1 : Int), .int .i64 (f1 : Int), .int .i64 (n1 : Int)]) := by show Has _ _ _; rw [hwA]; exact Has.new _ _ _
      have HR1 : Hid (Has wA (w.heap.size + 1 + 1) #[.func (.func 34) #[] #[], .func (.func 35) #[] #[], .func (.func 36) #[] #[], .func (.func 37) #[] #[], .func (.func 38) #[] #[], .func (.func 39) #[] #[]]) := by show Has _ _ _; rw [hwA]; exact (HR.out.call hb1).alloc _
      rw [← hwA]
      clear hwA hb1
      have a0 : wA.cell? ⟨w1.heap.size, 0, none⟩ = some (.int .i64 (c1 : Int)) := HA.out.cell 0 rfl
      have a1 : wA.cell? ⟨w1.heap.size, 1, none⟩ = some (.int .i64 (f1 : Int)) := HA.out.cell 1 rfl
      have a2 : wA.cell? ⟨w1.heap.size, 2, none⟩ = some (.int .i64 (n1 : Int)) := HA.out.cell 2 rfl
      by_cases c0 : c1 = 0
      · have hz := HL1.out.nil c0
        have HN1 : Hid (∀ j, j < 2 + 1 → ∀ y, ¬ BadI u j y) := fun j hj => by
          by_cases e : j = 2
          · subst e
            have h := HL1.out
            rw [hz] at h
            exact h.none
          · exact HN.out j (by omega)
        obtain ⟨rfl, rfl, rfl⟩ : c1 = 0 ∧ f1 = 0 ∧ n1 = 0 := by simpa [ft0] using hz
        clear hz HL1 c0
        go_wp2_with fail
        go_roundw
        case rel => exact ⟨2 + 1, by omega, by go_num, HN1, HB1, HR1⟩
        case measure => simp [intOf]
      · have s0 := (fx_row HB1.out).cell (i := 0) (by omega)
        have s1 := (fx_row HB1.out).cell (i := 1) (by omega)
        have s2 := (fx_row HB1.out).cell (i := 2) (by omega)
        have sz := (fx_row HB1.out).frozen
        have HQ : Hid (Least (BadU u) ⟨c1, f1, n1⟩) := badU_at (by omega) HN.out HL1.out c0
        have q1 : ((c1 : Int) == 0) = false := by simp; omega
        have q2 : ((c1 : Int) != 0) = true := by simp; omega
        go_wp2_with fail
        refine bodyPost_ret (v := ftV ⟨c1, f1, n1⟩) (by simp [results, Tryz.results20, go_sem, s0, s1, s2]) rfl ?_
        exact FtPost.of HQ.out (fx_out (fx_below HB1.out) _ _ _)
    · have g0 : wr.cell? ⟨w.heap.size + 1 + 1, 3, none⟩ = some (.func (.func 37) #[] #[]) := HR.out.cell 3 rfl
      have LK : Hid (Calls Tryz.prog 37 #[unV u a cap] wr fun e w' => FtPost (BadI u 3) wr e w') := treeFault_calls L u a cap fas wr HS.out (u3_of (HN.out 0 (by omega)) (HN.out 1 (by omega)) (HN.out 2 (by omega))) (HT.out.below hW)
      go_upto_region 5 with (go_at_call 37; refine LK.out.mono ?_; rintro e w1 ⟨⟨c1, f1, n1⟩, rfl, hL1, hb1⟩; have HL1 : Hid (Least (BadI u 3) ⟨c1, f1, n1⟩) := hL1; clear hL1)
      clear g0 f0 hW LK
      obtain ⟨wA, hwA⟩ : ∃ wA, wA = w1.alloc (.cells #[.int .i64 (c1 : Int), .int .i64 (f1 : Int), .int .i64 (n1 : Int)] 59) := ⟨_, rfl⟩
      have HB1 : Hid (Below (fxW w u a cap).heap.size (fxW w u a cap) wA) := by show Below _ _ _; rw [hwA]; exact below_a' (below_call HB.out hb1) _
      have HA : Hid (Has wA w1.heap.size #[.int .i64 (c1 : Int), .int .i64 (f1 : Int), .int .i64 (n1 : Int)]) := by show Has _ _ _; rw [hwA]; exact Has.new _ _ _
      have HR1 : Hid (Has wA (w.heap.size + 1 + 1) #[.func (.func 34) #[] #[], .func (.func 35) #[] #[], .func (.func 36) #[] #[], .func (.func 37) #[] #[], .func (.func 38) #[] #[], .func (.func 39) #[] #[]]) := by show Has _ _ _; rw [hwA]; exact (HR.out.call hb1).alloc _
      rw [← hwA]
      clear hwA hb1
      have a0 : wA.cell? ⟨w1.heap.size, 0, none⟩ = some (.int .i64 (c1 : Int)) := HA.out.cell 0 rfl
      have a1 : wA.cell? ⟨w1.heap.size, 1, none⟩ = some (.int .i64 (f1 : Int)) := HA.out.cell 1 rfl
      have a2 : wA.cell? ⟨w1.heap.size, 2, none⟩ = some (.int .i64 (n1 : Int)) := HA.out.cell 2 rfl
      by_cases c0 : c1 = 0
      · have hz := HL1.out.nil c0
        have HN1 : Hid (∀ j, j < 3 + 1 → ∀ y, ¬ BadI u j y) := fun j hj => by
          by_cases e : j = 3
          · subst e
            have h := HL1.out
            rw [hz] at h
            exact h.none
          · exact HN.out j (by omega)
        obtain ⟨rfl, rfl, rfl⟩ : c1 = 0 ∧ f1 = 0 ∧ n1 = 0 := by simpa [ft0] using hz
        clear hz HL1 c0
        go_wp2_with fail
        go_roundw
        case rel => exact ⟨3 + 1, by omega, by go_num, HN1, HB1, HR1⟩
        case measure => simp [intOf]
      · have s0 := (fx_row HB1.out).cell (i := 0) (by omega)
        have s1 := (fx_row HB1.out).cell (i := 1) (by omega)
        have s2 := (fx_row HB1.out).cell (i := 2) (by omega)
        have sz := (fx_row HB1.out).frozen
        have HQ : Hid (Least (BadU u) ⟨c1, f1, n1⟩) := badU_at (by omega) HN.out HL1.out c0
        have q1 : ((c1 : Int) == 0) = false := by simp; omega
        have q2 : ((c1 : Int) != 0) = true := by simp; omega
        go_wp2_with fail
        refine bodyPost_ret (v := ftV ⟨c1, f1, n1⟩) (by simp [results, Tryz.results20, go_sem, s0, s1, s2]) rfl ?_
        exact FtPost.of HQ.out (fx_out (fx_below HB1.out) _ _ _)
    · have g0 : wr.cell? ⟨w.heap.size + 1 + 1, 4, none⟩ = some (.func (.func 38) #[] #[]) := HR.out.cell 4 rfl
      have LK : Hid (Calls Tryz.prog 38 #[unV u a cap] wr fun e w' => FtPost (BadI u 4) wr e w') := nestFault_of HD.out L u a cap fas wr (u5_of (u3_of (HN.out 0 (by omega)) (HN.out 1 (by omega)) (HN.out 2 (by omega))) (HN.out 3 (by omega))) (HT.out.below hW)
      go_upto_region 5 with (go_at_call 38; refine LK.out.mono ?_; rintro e w1 ⟨⟨c1, f1, n1⟩, rfl, hL1, hb1⟩; have HL1 : Hid (Least (BadI u 4) ⟨c1, f1, n1⟩) := hL1; clear hL1)
      clear g0 f0 hW LK
      obtain ⟨wA, hwA⟩ : ∃ wA, wA = w1.alloc (.cells #[.int .i64 (c1 : Int), .int .i64 (f1 : Int), .int .i64 (n1 : Int)] 59) := ⟨_, rfl⟩
      have HB1 : Hid (Below (fxW w u a cap).heap.size (fxW w u a cap) wA) := by show Below _ _ _; rw [hwA]; exact below_a' (below_call HB.out hb1) _
      have HA : Hid (Has wA w1.heap.size #[.int .i64 (c1 : Int), .int .i64 (f1 : Int), .int .i64 (n1 : Int)]) := by show Has _ _ _; rw [hwA]; exact Has.new _ _ _
      have HR1 : Hid (Has wA (w.heap.size + 1 + 1) #[.func (.func 34) #[] #[], .func (.func 35) #[] #[], .func (.func 36) #[] #[], .func (.func 37) #[] #[], .func (.func 38) #[] #[], .func (.func 39) #[] #[]]) := by show Has _ _ _; rw [hwA]; exact (HR.out.call hb1).alloc _
      rw [← hwA]
      clear hwA hb1
      have a0 : wA.cell? ⟨w1.heap.size, 0, none⟩ = some (.int .i64 (c1 : Int)) := HA.out.cell 0 rfl
      have a1 : wA.cell? ⟨w1.heap.size, 1, none⟩ = some (.int .i64 (f1 : Int)) := HA.out.cell 1 rfl
      have a2 : wA.cell? ⟨w1.heap.size, 2, none⟩ = some (.int .i64 (n1 : Int)) := HA.out.cell 2 rfl
      by_cases c0 : c1 = 0
      · have hz := HL1.out.nil c0
        have HN1 : Hid (∀ j, j < 4 + 1 → ∀ y, ¬ BadI u j y) := fun j hj => by
          by_cases e : j = 4
          · subst e
            have h := HL1.out
            rw [hz] at h
            exact h.none
          · exact HN.out j (by omega)
        obtain ⟨rfl, rfl, rfl⟩ : c1 = 0 ∧ f1 = 0 ∧ n1 = 0 := by simpa [ft0] using hz
        clear hz HL1 c0
        go_wp2_with fail
        go_roundw
        case rel => exact ⟨4 + 1, by omega, by go_num, HN1, HB1, HR1⟩
        case measure => simp [intOf]
      · have s0 := (fx_row HB1.out).cell (i := 0) (by omega)
        have s1 := (fx_row HB1.out).cell (i := 1) (by omega)
        have s2 := (fx_row HB1.out).cell (i := 2) (by omega)
        have sz := (fx_row HB1.out).frozen
        have HQ : Hid (Least (BadU u) ⟨c1, f1, n1⟩) := badU_at (by omega) HN.out HL1.out c0
        have q1 : ((c1 : Int) == 0) = false := by simp; omega
        have q2 : ((c1 : Int) != 0) = true := by simp; omega
        go_wp2_with fail
        refine bodyPost_ret (v := ftV ⟨c1, f1, n1⟩) (by simp [results, Tryz.results20, go_sem, s0, s1, s2]) rfl ?_
        exact FtPost.of HQ.out (fx_out (fx_below HB1.out) _ _ _)
    · have g0 : wr.cell? ⟨w.heap.size + 1 + 1, 5, none⟩ = some (.func (.func 39) #[] #[]) := HR.out.cell 5 rfl
      have LK : Hid (Calls Tryz.prog 39 #[unV u a cap] wr fun e w' => FtPost (BadI u 5) wr e w') := HX.out L u a cap fas wr HS.out (u5_of (u3_of (HN.out 0 (by omega)) (HN.out 1 (by omega)) (HN.out 2 (by omega))) (HN.out 3 (by omega))) (HN.out 4 (by omega)) HC.out (HT.out.below hW)
      go_upto_region 5 with (go_at_call 39; refine LK.out.mono ?_; rintro e w1 ⟨⟨c1, f1, n1⟩, rfl, hL1, hb1⟩; have HL1 : Hid (Least (BadI u 5) ⟨c1, f1, n1⟩) := hL1; clear hL1)
      clear g0 f0 hW LK
      obtain ⟨wA, hwA⟩ : ∃ wA, wA = w1.alloc (.cells #[.int .i64 (c1 : Int), .int .i64 (f1 : Int), .int .i64 (n1 : Int)] 59) := ⟨_, rfl⟩
      have HB1 : Hid (Below (fxW w u a cap).heap.size (fxW w u a cap) wA) := by show Below _ _ _; rw [hwA]; exact below_a' (below_call HB.out hb1) _
      have HA : Hid (Has wA w1.heap.size #[.int .i64 (c1 : Int), .int .i64 (f1 : Int), .int .i64 (n1 : Int)]) := by show Has _ _ _; rw [hwA]; exact Has.new _ _ _
      have HR1 : Hid (Has wA (w.heap.size + 1 + 1) #[.func (.func 34) #[] #[], .func (.func 35) #[] #[], .func (.func 36) #[] #[], .func (.func 37) #[] #[], .func (.func 38) #[] #[], .func (.func 39) #[] #[]]) := by show Has _ _ _; rw [hwA]; exact (HR.out.call hb1).alloc _
      rw [← hwA]
      clear hwA hb1
      have a0 : wA.cell? ⟨w1.heap.size, 0, none⟩ = some (.int .i64 (c1 : Int)) := HA.out.cell 0 rfl
      have a1 : wA.cell? ⟨w1.heap.size, 1, none⟩ = some (.int .i64 (f1 : Int)) := HA.out.cell 1 rfl
      have a2 : wA.cell? ⟨w1.heap.size, 2, none⟩ = some (.int .i64 (n1 : Int)) := HA.out.cell 2 rfl
      by_cases c0 : c1 = 0
      · have hz := HL1.out.nil c0
        have HN1 : Hid (∀ j, j < 5 + 1 → ∀ y, ¬ BadI u j y) := fun j hj => by
          by_cases e : j = 5
          · subst e
            have h := HL1.out
            rw [hz] at h
            exact h.none
          · exact HN.out j (by omega)
        obtain ⟨rfl, rfl, rfl⟩ : c1 = 0 ∧ f1 = 0 ∧ n1 = 0 := by simpa [ft0] using hz
        clear hz HL1 c0
        go_wp2_with fail
        go_roundw
        case rel => exact ⟨5 + 1, by omega, by go_num, HN1, HB1, HR1⟩
        case measure => simp [intOf]
      · have s0 := (fx_row HB1.out).cell (i := 0) (by omega)
        have s1 := (fx_row HB1.out).cell (i := 1) (by omega)
        have s2 := (fx_row HB1.out).cell (i := 2) (by omega)
        have sz := (fx_row HB1.out).frozen
        have HQ : Hid (Least (BadU u) ⟨c1, f1, n1⟩) := badU_at (by omega) HN.out HL1.out c0
        have q1 : ((c1 : Int) == 0) = false := by simp; omega
        have q2 : ((c1 : Int) != 0) = true := by simp; omega
        go_wp2_with fail
        refine bodyPost_ret (v := ftV ⟨c1, f1, n1⟩) (by simp [results, Tryz.results20, go_sem, s0, s1, s2]) rfl ?_
        exact FtPost.of HQ.out (fx_out (fx_below HB1.out) _ _ _)
    · have HL : Hid (Least (BadU u) ⟨0, 0, 0⟩) := badU_no HN.out
      have s0 := (fx_row HB.out).cell (i := 0) (by omega)
      have s1 := (fx_row HB.out).cell (i := 1) (by omega)
      have s2 := (fx_row HB.out).cell (i := 2) (by omega)
      have sz := (fx_row HB.out).frozen
      go_wp2_with fail
      refine bodyPost_ret (v := ftV ⟨0, 0, 0⟩) (by simp [results, Tryz.results20, go_sem, s0, s1, s2]) rfl ?_
      exact FtPost.of HL.out (fx_out (fx_below HB.out) _ _ _)
end Go.Proofs.YtdialodjllpgaaaGreatDoor
