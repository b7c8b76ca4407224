import Derived.Test.YtiidepafifodjabGreatChA
import Derived.Test.YtiidepafifodjabGreatFiD
import Derived.Test.YtiidepafifodjabGreatUnJ
/-! FnExactCheckUnit: the walk. -/
namespace Go.Proofs.YtiidepafifodjabGreat
open Go.RowKit
attribute [local go_sem] run_store_float
attribute [local go_sem ↓] Go.wp_at_zero Go.wp_at_succ

set_option maxRecDepth 100000 in
set_option maxHeartbeats 8000000 in
theorem checkUnit_walk (u : UD) (a : Option Addr) (cap : Nat) (fas : Nat → FA) (w : World) (hd : u.wf) (hT : FnsAt 0 w u.n u.fn a fas) :
    Calls Tryz.prog 3 #[unV u a cap] w fun e w' => e = .returned (.bool true) ∧ Below w.heap.size w w' := by
  have HW : Hid u.wf := hd
  have HT : Hid (FnsAt 0 w u.n u.fn a fas) := hT
  clear hd hT
  go_enter Tryz.func3, Tryz.ntmps3
  go_wp2_with fail
  refine (szUnit_calls 0 u a cap fas 1048576 _ (by omega) (by omega) HW.out (HT.out.alloc _)).mono ?_
  rintro e w1 ⟨⟨v, rfl, hv⟩, hb1⟩
  have hT1 : Hid (FnsAt 0 w1 u.n u.fn a fas) := (HT.out.alloc _).below hb1
  have hX : Hid (Has w1 w.heap.size #[.slice a u.n cap]) := Has.made hb1
  have hB : Hid (Below w.heap.size w w1) := below_call (below_alloc _ _) hb1
  clear hb1 HT
  rcases hv with rfl | ⟨v0, v1, v2⟩
  · go_wp2_with fail
    go_ret
    exact ⟨rfl, hB.out⟩
  have HS : Hid u.sm := v2
  clear v2
  have c0 := hX.out.cell 0 rfl
  go_wp2_with fail
  clear c0 v0 v1
  refine (toUnit_calls 0 u a cap fas _ HS.out hT1.out).mono ?_
  rintro e w2 ⟨⟨B2, y2, rfl, _, hR2, _⟩, hb2⟩
  have hT2 : Hid (FnsAt B2 w2 u.n u.fn (some ⟨B2, 0, none⟩) y2) := hR2
  replace hT1 : Hid (FnsAt 0 w2 u.n u.fn a fas) := hT1.out.below hb2
  replace hX : Hid (Has w2 w.heap.size #[.slice a u.n cap]) := hX.out.call hb2
  replace hB : Hid (Below w.heap.size w w2) := below_call hB.out hb2
  clear hb2 hR2
  go_wp2_with fail
  refine (specCheck_calls _ u _ _ _ _ HS.out hT2.out).mono ?_
  rintro e w3 ⟨x3, rfl, hl3, hb3⟩
  have HL3 : Hid (Least (BadU u) x3) := hl3
  replace hT1 : Hid (FnsAt 0 (w3.alloc (.cells (ftC x3) 27)) u.n u.fn a fas) := (hT1.out.below hb3).alloc _
  replace hX : Hid (Has (w3.alloc (.cells (ftC x3) 27)) w.heap.size #[.slice a u.n cap]) := (hX.out.call hb3).alloc _
  have hF : Hid (Has (w3.alloc (.cells (ftC x3) 27)) w3.heap.size (ftC x3)) := Has.new _ _ _
  replace hB : Hid (Below w.heap.size w (w3.alloc (.cells (ftC x3) 27))) := below_a (below_call hB.out hb3) _
  clear hb3 hT2 hl3
  have c0 := hX.out.cell 0 rfl
  go_wp2_with fail
  clear c0
  refine (toUnit_calls 0 u a cap fas _ HS.out hT1.out).mono ?_
  rintro e w4 ⟨⟨B4, y4, rfl, _, hR4, hc4⟩, hb4⟩
  have hT4 : Hid (FnsAt B4 (w4.alloc (.cells #[.slice (some ⟨B4, 0, none⟩) u.n u.n] 31)) u.n u.fn (some ⟨B4, 0, none⟩) y4) := hR4.alloc _
  have hC4 : Hid (∀ i, i < u.n → CapF (u.fn i) (y4 i)) := hc4
  replace hT1 : Hid (FnsAt 0 (w4.alloc (.cells #[.slice (some ⟨B4, 0, none⟩) u.n u.n] 31)) u.n u.fn a fas) := (hT1.out.below hb4).alloc _
  replace hX : Hid (Has (w4.alloc (.cells #[.slice (some ⟨B4, 0, none⟩) u.n u.n] 31)) w.heap.size #[.slice a u.n cap]) := (hX.out.call hb4).alloc _
  replace hF : Hid (Has (w4.alloc (.cells #[.slice (some ⟨B4, 0, none⟩) u.n u.n] 31)) w3.heap.size (ftC x3)) := (hF.out.call hb4).alloc _
  have hY : Hid (Has (w4.alloc (.cells #[.slice (some ⟨B4, 0, none⟩) u.n u.n] 31)) w4.heap.size #[.slice (some ⟨B4, 0, none⟩) u.n u.n]) := Has.new _ _ _
  replace hB : Hid (Below w.heap.size w (w4.alloc (.cells #[.slice (some ⟨B4, 0, none⟩) u.n u.n] 31))) := below_a (below_call hB.out hb4) _
  clear hb4 hR4 hc4
  go_wp2_with fail
  refine (implCheck_calls _ u _ _ _ _ HS.out hC4.out hT4.out).mono ?_
  rintro e w5 ⟨x5, rfl, hl5, hb5⟩
  obtain rfl : x5 = x3 := hl5.uniq HL3.out
  replace hT4 : Hid (FnsAt B4 (w5.alloc (.cells (ftC x5) 27)) u.n u.fn (some ⟨B4, 0, none⟩) y4) := (hT4.out.below hb5).alloc _
  replace hT1 : Hid (FnsAt 0 (w5.alloc (.cells (ftC x5) 27)) u.n u.fn a fas) := (hT1.out.below hb5).alloc _
  replace hX : Hid (Has (w5.alloc (.cells (ftC x5) 27)) w.heap.size #[.slice a u.n cap]) := (hX.out.call hb5).alloc _
  replace hF : Hid (Has (w5.alloc (.cells (ftC x5) 27)) w3.heap.size (ftC x5)) := (hF.out.call hb5).alloc _
  replace hY : Hid (Has (w5.alloc (.cells (ftC x5) 27)) w4.heap.size #[.slice (some ⟨B4, 0, none⟩) u.n u.n]) := (hY.out.call hb5).alloc _
  have hG : Hid (Has (w5.alloc (.cells (ftC x5) 27)) w5.heap.size (ftC x5)) := Has.new _ _ _
  replace hB : Hid (Below w.heap.size w (w5.alloc (.cells (ftC x5) 27))) := below_a (below_call hB.out hb5) _
  clear hb5 hl5 hC4
  obtain ⟨w6, hw6⟩ : ∃ w6, w6 = w5.alloc (.cells (ftC x5) 27) := ⟨_, rfl⟩
  rw [← hw6] at hT4 hT1 hX hF hY hG hB
  have g0 := hG.out.cell 0 rfl
  have g1 := hG.out.cell 1 rfl
  have g2 := hG.out.cell 2 rfl
  have f0 := hF.out.cell 0 rfl
  have f1 := hF.out.cell 1 rfl
  have f2 := hF.out.cell 2 rfl
  go_upto_region 8 with fail
  (try simp only [ftC] at hw6)
  rw [← hw6]
  clear hw6
  go_upto_region 10 with (go_at_call 11; refine (eqFault_calls _ _ _ _).mono ?_; rintro e w7 ⟨rfl, hb7⟩; replace hT4 : Hid (FnsAt B4 w7 u.n u.fn (some ⟨B4, 0, none⟩) y4) := hT4.out.below hb7; replace hT1 : Hid (FnsAt 0 w7 u.n u.fn a fas) := hT1.out.below hb7; replace hX : Hid (Has w7 w.heap.size #[.slice a u.n cap]) := hX.out.call hb7; replace hY : Hid (Has w7 w4.heap.size #[.slice (some ⟨B4, 0, none⟩) u.n u.n]) := hY.out.call hb7; replace hB : Hid (Below w.heap.size w w7) := below_call hB.out hb7; clear hb7 g0 g1 g2 f0 f1 f2)
  have c0 := hX.out.cell 0 rfl
  have d0 := hY.out.cell 0 rfl
  go_region_with (first | (go_at_call 9; refine (toUnit_calls 0 u a cap fas _ HS.out (by first | exact hT1.out | exact hT1.out)).mono ?_; rintro e w8 ⟨⟨B8, y8, rfl, _, hR8, _⟩, hb8⟩; have hT8 : Hid (FnsAt B8 w8 u.n u.fn (some ⟨B8, 0, none⟩) y8) := hR8; replace hT4 : Hid (FnsAt B4 w8 u.n u.fn (some ⟨B4, 0, none⟩) y4) := hT4.out.below ((Below.refl _ _).drew.trans hb8); replace hY : Hid (Has w8 w4.heap.size #[.slice (some ⟨B4, 0, none⟩) u.n u.n]) := hY.out.call ((Below.refl _ _).drew.trans hb8); replace hB : Hid (Below w.heap.size w w8) := below_call hB.out ((Below.refl _ _).drew.trans hb8); clear hb8 hR8 c0 d0; have d0 := hY.out.cell 0 rfl) | (go_at_call 12; refine (eqUnit_calls _ _ u _ _ _ _ y4 y8 _ HW.out HS.out hT4.out hT8.out).mono ?_; rintro e w9 ⟨rfl, hb9⟩; replace hB : Hid (Below w.heap.size w w9) := below_call hB.out hb9; clear hb9))
  all_goals go_wp2_with fail
  all_goals go_ret
  all_goals exact ⟨rfl, hB.out⟩
end Go.Proofs.YtiidepafifodjabGreat
