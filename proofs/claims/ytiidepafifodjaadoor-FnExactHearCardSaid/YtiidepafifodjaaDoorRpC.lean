import Derived.Test.YtiidepafifodjaaDoorRpB
import Derived.Test.YtiidepafifodjaaDoorUnS
/-! Reports held against each other, and marked, by the laws. -/
namespace Go.Proofs.YtiidepafifodjaaDoor
open Go.RowKit
attribute [local go_sem] run_store_float
attribute [local go_sem ↓] Go.wp_at_zero Go.wp_at_succ

set_option maxRecDepth 100000 in
set_option maxHeartbeats 4000000 in
theorem eqRec_calls (d : RcD) (w : World) : Calls Tryd.prog 41 #[rcV d, rcV d] w fun e w' => e = .returned (.bool true) ∧ Below w.heap.size w w' := by
  go_enter Tryd.func41, Tryd.ntmps41
  go_wp2_with fail
  all_goals go_ret
  all_goals exact ⟨rfl, below_alloc2 _ _ _⟩

set_option maxRecDepth 100000 in
set_option maxHeartbeats 8000000 in
theorem eqRecS_calls (L L' : Nat) (a a' : Option Addr) (n cap cap' : Nat) (u : Nat → RcD) (w : World) (hn : n ≤ 1048576) (hT : RcsAt L w a n u) (hT' : RcsAt L' w a' n u) :
    Calls Tryd.prog 25 #[.slice a n cap, .slice a' n cap'] w fun e w' => e = .returned (.bool true) ∧ Below w.heap.size w w' := by
  have HT : Hid (RcsAt L w a n u) := hT
  have HT' : Hid (RcsAt L' w a' n u) := hT'
  clear hT hT'
  go_enter Tryd.func25, Tryd.ntmps25
  go_wp2_with fail
  go_loopw [5] (fun i wr => ∃ (k : Nat), k ≤ n ∧ i = .int .i64 k ∧ Below w.heap.size w wr) (fun i _ => n - (intOf i).toNat)
  case atStart => exact ⟨0, Nat.zero_le _, rfl, Below.refl _ _⟩
  case round =>
    obtain ⟨k, hk, rfl, hB⟩ := hrel
    by_cases hkn : k < n
    · obtain ⟨b, off, rfl, _, hb, d0, d1, d2, d3, d4⟩ := cellsR (RowN.below HT.out hB) hkn
      obtain ⟨b', off', rfl, _, hb', e0, e1, e2, e3, e4⟩ := cellsR (RowN.below HT'.out hB) hkn
      have k0 : (0 : Int) ≤ (k : Int) := by omega
      have k1 : (k : Int) < (n : Int) := by omega
      go_wp2_with fail
      go_region_with (go_at_call 41; refine (eqRec_calls (u k) _).mono ?_; rintro e w2 ⟨rfl, hb2⟩; (first | replace hB := below_call hB hb2 | replace hB := below_call hB.drew hb2 | replace hB := below_call hB.drew.drew hb2); clear d0 d1 d2 d3 d4 e0 e1 e2 e3 e4 hb2)
      all_goals go_wp2_with fail
      all_goals go_roundw
      case rel => exact ⟨k + 1, by omega, by go_num, hB⟩
      case measure => simp [intOf]; omega
      case rel => exact ⟨k + 1, by omega, by go_num, hB⟩
      case measure => simp [intOf]; omega
    · go_wp2_with fail
      go_ret
      exact ⟨rfl, hB⟩

set_option maxRecDepth 100000 in
set_option maxHeartbeats 4000000 in
theorem eqReport_calls (L L' : Nat) (d : RpD) (x x' : RpX) (w : World) (hs : d.sm) (hT : RpAt L w d x) (hT' : RpAt L' w d x') :
    Calls Tryd.prog 10 #[rpV d x, rpV d x'] w fun e w' => e = .returned (.bool true) ∧ Below w.heap.size w w' := by
  have HS : Hid d.sm := hs
  have HT : Hid (RpAt L w d x) := hT
  have HT' : Hid (RpAt L' w d x') := hT'
  clear hT hT' hs
  go_enter Tryd.func10, Tryd.ntmps10
  go_wp2_with fail
  refine (eqRecS_calls L L' _ _ _ _ _ d.rc _ HS.out.n ((HT.out.alloc _).alloc _).1 ((HT'.out.alloc _).alloc _).1).mono ?_
  rintro e w2 ⟨rfl, hb2⟩
  have HA : Hid (Has w2 w.heap.size (rpC d x)) := ((Has.new w (rpC d x) _).alloc _).call hb2
  have HA' : Hid (Has w2 (w.heap.size + 1) (rpC d x')) := (by have h := (Has.new (w.alloc (.cells (rpC d x) 31)) (rpC d x') 31).call hb2; show Has _ _ _; simpa using h)
  have HB : Hid (Below w.heap.size w w2) := below_call (below_alloc2 _ _ _) hb2
  clear hb2
  have c7 := HA.out.cell 2 rfl
  have c7' := HA'.out.cell 2 rfl
  go_wp2_with fail
  refine (eqStringS_calls L L' _ _ _ _ _ d.v _ HS.out.m (HT.out.below HB.out).2 (HT'.out.below HB.out).2).mono ?_
  rintro e w3 ⟨rfl, hb3⟩
  replace HB : Hid (Below w.heap.size w w3) := below_call HB.out hb3
  replace HA : Hid (Has w3 w.heap.size (rpC d x)) := HA.out.call hb3
  replace HA' : Hid (Has w3 (w.heap.size + 1) (rpC d x')) := HA'.out.call hb3
  clear hb3 c7 c7'
  have c3 := HA.out.cell 3 rfl
  have c4 := HA.out.cell 4 rfl
  have c5 := HA.out.cell 5 rfl
  have c6 := HA.out.cell 6 rfl
  have c3' := HA'.out.cell 3 rfl
  have c4' := HA'.out.cell 4 rfl
  have c5' := HA'.out.cell 5 rfl
  have c6' := HA'.out.cell 6 rfl
  go_wp2_with fail
  go_ret
  exact ⟨rfl, HB.out⟩

theorem LfR.put {K L H : Nat} {a w : World} {b n : Nat} (h : LfR K L H w b n) (hm : Mk L H a w) (hn : 0 < n) {j : Nat} (hj : j < n * K) {v : Value} (hv : ns v = true) : Mk L H a (w.setCell ⟨b, j, none⟩ v) := by
  obtain ⟨h1, h2, _, _, h5⟩ := h hn
  exact hm.put h1 h2 (h5 j hj) hv
theorem LfR.put4 {L H : Nat} {a w : World} {b n : Nat} (h : LfR 5 L H w b n) (hm : Mk L H a w) {m : Nat} (hmn : m < n) {v0 v1 v2 v3 : Value} (h0 : ns v0 = true) (h1 : ns v1 = true) (h2 : ns v2 = true) (h3 : ns v3 = true) :
    Mk L H a ((((w.setCell ⟨b, m * 5, none⟩ v0).setCell ⟨b, m * 5 + 1, none⟩ v1).setCell ⟨b, m * 5 + 2, none⟩ v2).setCell ⟨b, m * 5 + 3, none⟩ v3) := by
  have hn : 0 < n := by omega
  have k0 := h.put (Mk.refl L H w) hn (j := m * 5) (by omega) h0
  have k1 := (h.mk k0).put k0 hn (j := m * 5 + 1) (by omega) h1
  have k2 := (h.mk k1).put k1 hn (j := m * 5 + 2) (by omega) h2
  have k3 := (h.mk k2).put k2 hn (j := m * 5 + 3) (by omega) h3
  exact hm.trans k3

set_option maxRecDepth 100000 in
set_option maxHeartbeats 4000000 in
theorem markRecS_calls (L H b n cap : Nat) (k : Int) (w : World) (hn : n ≤ 1048576) (hk : 0 < k) (hk2 : k < 9000000000000000000) (hR : LfR 5 L H w b n) :
    Calls Tryd.prog 27 #[.slice (some ⟨b, 0, none⟩) n cap, .int .i64 k] w fun e w' => e = .returned (.int .i64 (k + (n : Int) * 5)) ∧ Mk L H w w' := by
  have HR : Hid (LfR 5 L H w b n) := hR
  clear hR
  go_enter Tryd.func27, Tryd.ntmps27
  go_wp2_with fail
  go_loopw [1, 5] (fun kv i wr => ∃ m : Nat, m ≤ n ∧ kv = .int .i64 (k + (m : Int) * 5) ∧ i = .int .i64 m ∧ Hid (Mk L H w wr)) (fun _ i _ => n - (intOf i).toNat)
  case atStart => exact ⟨0, Nat.zero_le _, by simp, rfl, Mk.refl _ _ _⟩
  case round =>
    obtain ⟨m, hm, rfl, rfl, HM⟩ := hrel
    by_cases hmn : m < n
    · obtain ⟨h1, h2, h3, z, h5⟩ := (HR.out.mk HM.out) (by omega)
      obtain ⟨v0, g0, q0⟩ := h5 (m * 5) (by omega)
      obtain ⟨v1, g1, q1⟩ := h5 (m * 5 + 1) (by omega)
      obtain ⟨v2, g2, q2⟩ := h5 (m * 5 + 2) (by omega)
      obtain ⟨v3, g3, q3⟩ := h5 (m * 5 + 3) (by omega)
      clear h5 q0 q1 q2 q3
      go_wp2_with (go_at_call 42; refine (markText_any _ _ (by omega) (by omega)).mono ?_; rintro e w2 ⟨⟨s, rfl⟩, hb2⟩; have HM2 : Hid (Mk L H w w2) := ((HR.out.mk HM.out).put4 HM.out hmn rfl rfl rfl rfl).below hb2 (by simp; omega); clear g0 g1 g2 g3 z; obtain ⟨_, _, _, z, h5⟩ := (HR.out.mk HM2.out) (by omega); obtain ⟨v4, g4, q4⟩ := h5 (m * 5 + 4) (by omega); have HM3 : Hid (∀ v, ns v = true → Mk L H w (w2.setCell ⟨b, m * 5 + 4, none⟩ v)) := (fun v hv => HM2.out.put h1 h2 ⟨v4, g4, q4⟩ hv); clear h5 hb2)
      go_roundw
      case rel => exact ⟨m + 1, by omega, by go_num, by go_num, HM3.out _ rfl⟩
      case measure => simp [intOf]; omega
    · obtain rfl : m = n := by omega
      go_wp2_with fail
      go_ret
      exact ⟨rfl, HM.out⟩

/-- the lists of a copy can be marked -/
theorem RpZ.lf {L : Nat} {w : World} {d : RpD} {x : RpX} (hz : RpZ w x) (hT : RpAt L w d x) : ∃ b1 b2, x.ra = some ⟨b1, 0, none⟩ ∧ x.va = some ⟨b2, 0, none⟩ ∧ LfR 5 L w.heap.size w b1 d.n ∧ LfR 1 L w.heap.size w b2 d.m := by
  obtain ⟨b1, b2, e1, e2, z1, z2⟩ := hz
  refine ⟨b1, b2, e1, e2, fun hn => ?_, fun hn => ?_⟩
  · obtain ⟨b, off, e, h0, h1, h2⟩ := hT.1 hn
    rw [e1] at e
    cases e
    refine ⟨h0, h1, Nat.le_refl _, z1.2, fun j hj => ?_⟩
    have hd := Nat.div_add_mod j 5
    have h3 := h2 (j / 5) (by omega) (j % 5) (by omega)
    have e3 : 0 + j / 5 * 5 + j % 5 = j := by omega
    rw [e3] at h3
    have h4 : j % 5 < 5 := by omega
    rcases (show j % 5 = 0 ∨ j % 5 = 1 ∨ j % 5 = 2 ∨ j % 5 = 3 ∨ j % 5 = 4 by omega) with e | e | e | e | e <;> (rw [e] at h3; exact ⟨_, h3, rfl⟩)
  · obtain ⟨b, off, e, h0, h1, h2⟩ := hT.2 hn
    rw [e2] at e
    cases e
    refine ⟨h0, h1, Nat.le_refl _, z2.2, fun j hj => ?_⟩
    have h3 := h2 j (by omega) 0 (by omega)
    have e3 : 0 + j * 1 + 0 = j := by omega
    rw [e3] at h3
    exact ⟨_, h3, rfl⟩

set_option maxRecDepth 100000 in
set_option maxHeartbeats 4000000 in
theorem markReport_calls (L H b1 b2 : Nat) (d : RpD) (c1 c2 : Nat) (k : Int) (w : World) (hs : d.sm) (hk : 0 < k) (hk2 : k < 1000) (hL : L ≤ w.heap.size) (hR1 : LfR 5 L H w b1 d.n) (hR2 : LfR 1 L H w b2 d.m) :
    Calls Tryd.prog 11 #[rpV d ⟨some ⟨b1, 0, none⟩, c1, some ⟨b2, 0, none⟩, c2⟩, .int .i64 k] w fun e w' => (∃ k' : Int, e = .returned (.int .i64 k') ∧ 0 < k') ∧ Mk L H w w' := by
  have hn := hs.n
  have hm := hs.m
  have HR2 : Hid (LfR 1 L H w b2 d.m) := hR2
  have HR1 : Hid (LfR 5 L H w b1 d.n) := hR1
  have HA : Hid (Mk L H w (w.alloc (.cells (rpC d ⟨some ⟨b1, 0, none⟩, c1, some ⟨b2, 0, none⟩, c2⟩) 31))) := (Mk.refl _ _ _).below (below_alloc _ _) hL
  have HH : Hid (Has (w.alloc (.cells (rpC d ⟨some ⟨b1, 0, none⟩, c1, some ⟨b2, 0, none⟩, c2⟩) 31)) w.heap.size (rpC d ⟨some ⟨b1, 0, none⟩, c1, some ⟨b2, 0, none⟩, c2⟩)) := Has.new _ _ _
  clear hR1 hR2 hs
  go_enter Tryd.func11, Tryd.ntmps11
  go_wp2_with fail
  refine (markRecS_calls L H b1 _ _ _ _ hn (by omega) (by omega) (HR1.out.mk HA.out)).mono ?_
  rintro e w2 ⟨rfl, hm2⟩
  have HM2 : Hid (Mk L H w w2) := HA.out.trans hm2
  have c : ∃ v, w2.cell? ⟨w.heap.size, 2, none⟩ = some v ∧ ns v = ns (.slice (some ⟨b2, 0, none⟩) d.m c2) ∧ (ns (.slice (some ⟨b2, 0, none⟩) d.m c2) = false → v = .slice (some ⟨b2, 0, none⟩) d.m c2) := hm2.cl w.heap.size 2 _ HH.out.lt (HH.out.cell 2 rfl)
  obtain ⟨v, hv, _, hv2⟩ := c
  have e2 := hv2 rfl
  subst e2
  clear hm2 hv2
  go_wp2_with fail
  refine (markStringS_calls L H b2 _ _ _ _ hm (by omega) (by omega) (HR2.out.mk HM2.out)).mono ?_
  rintro e w3 ⟨rfl, hm3⟩
  have HM3 : Hid (Mk L H w w3) := HM2.out.trans hm3
  clear hm3 hv
  go_wp2_with fail
  go_ret
  exact ⟨⟨_, rfl, by omega⟩, HM3.out⟩
end Go.Proofs.YtiidepafifodjaaDoor
