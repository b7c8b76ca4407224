import Derived.Test.YtcpjnddkibbddaaGreatLnQ
import Derived.Test.YtcpjnddkibbddaaGreatChB
/-! FnExactLines: the walk. -/
namespace Go.Proofs.YtcpjnddkibbddaaGreat
open Go.RowKit
attribute [local go_sem] run_store_float
attribute [local go_sem ↓] Go.wp_at_zero Go.wp_at_succ

theorem LiAt.keep {L B : Nat} {w w' : World} {a : Option Addr} {xs : List Int} (h : LiAt L w a xs) (hb : Below B w w') (hB : w.heap.size ≤ B) : LiAt L w' a xs := RowN.below h (hb.mono hB)
theorem own_call {u w : World} {N n cap : Nat} {a : Option Addr} {xs : List Value} (h : u.ownsRow N 3 1 (.slice a n cap) n xs) (hb : Below u.heap.size u w) : w.ownsRow N 3 1 (.slice a n cap) n xs :=
  ownsRow_block h fun k e => hb.block k (h.lt k ((own_bk _ _ _).trans e)).2
theorem own_mk {u w : World} {L H N n cap : Nat} {a : Option Addr} {xs : List Value} (h : u.ownsRow N 3 1 (.slice a n cap) n xs) (hm : Mk L H u w) (hN : H ≤ N) : w.ownsRow N 3 1 (.slice a n cap) n xs :=
  ownsRow_block h fun k e => hm.hi k (Nat.le_trans hN (h.lt k ((own_bk _ _ _).trans e)).1) (h.lt k ((own_bk _ _ _).trans e)).2

theorem has_grown {u w' : World} {B : Nat} {A : Array Value} {r : Option Nat} (h : Has u B A) (hg : u.grownBy w' r) (hne : some B ≠ r) : Has w' B A := ⟨Nat.lt_of_lt_of_le h.1 hg.size, fun o => (World.cell?_of_block (a := ⟨B, o, none⟩) (hg.block B h.1 hne)).trans (h.2 o)⟩

set_option maxRecDepth 100000 in
set_option maxHeartbeats 8000000 in
theorem lines_walk (u : UD) (a : Option Addr) (cap : Nat) (fas : Nat → FA) (w : World) (hd : u.wf) (hT : FnsAt 0 w u.n u.fn a fas) :
    Calls Tryz.prog 3 #[unV u a cap] w fun e w' => e = .returned (.bool true) ∧ Below w.heap.size w w' := by
  have HW : Hid u.wf := hd
  have HT : Hid (FnsAt 0 w u.n u.fn a fas) := hT
  clear hd hT
  go_enter Tryz.func3, Tryz.ntmps3
  go_wp2_with fail
  refine (szUnit_calls 0 u a cap fas 1048576 _ (by omega) (by omega) HW.out (HT.out.alloc _)).mono ?_
  rintro e w1 ⟨⟨v, rfl, hv⟩, hb1⟩
  have hX : Hid (Has w1 w.heap.size #[.slice a u.n cap]) := Has.made hb1
  have hB : Hid (Below w.heap.size w w1) := below_call (below_alloc _ _) hb1
  have hS1 : Hid (w.heap.size < w1.heap.size) := by have := hb1.size; simp at this; show _ < _; omega
  clear hb1
  rcases hv with rfl | ⟨v0, v1, v2⟩
  · go_wp2_with fail
    go_ret
    exact ⟨rfl, hB.out⟩
  have HS : Hid u.sm := v2
  clear v2
  have c0 := hX.out.cell 0 rfl
  go_wp2_with fail
  clear c0 v0 v1
  refine (toUnit_calls 0 u a cap fas _ HS.out (HT.out.below hB.out)).mono ?_
  rintro e w2 ⟨⟨B2, y2, rfl, _, hR2, _⟩, hb2⟩
  have hT2 : Hid (FnsAt B2 w2 u.n u.fn (some ⟨B2, 0, none⟩) y2) := hR2
  replace hX : Hid (Has w2 w.heap.size #[.slice a u.n cap]) := hX.out.call hb2
  replace hB : Hid (Below w.heap.size w w2) := below_call hB.out hb2
  have hS2 : Hid (w.heap.size < w2.heap.size) := Nat.lt_of_lt_of_le hS1.out hb2.size
  clear hb2 hR2 hS1
  go_wp2_with fail
  refine (specLines_calls _ u _ _ _ _ HS.out hT2.out).mono ?_
  rintro e w3 ⟨⟨xs, a3, cap3, rfl, hl3, hn3, hli⟩, hb3⟩
  have HL3 : Hid (LinesIs u xs) := hl3
  have HLi : Hid (LiAt 0 w3 a3 xs) := RowN.less hli (Nat.zero_le _)
  replace hX : Hid (Has w3 w.heap.size #[.slice a u.n cap]) := hX.out.call hb3
  replace hB : Hid (Below w.heap.size w w3) := below_call hB.out hb3
  have hS3 : Hid (w.heap.size < w3.heap.size) := Nat.lt_of_lt_of_le hS2.out hb3.size
  clear hb3 hT2 hl3 hli hS2
  have c0 := hX.out.cell 0 rfl
  go_wp2_with fail
  clear c0
  refine (toUnit_callsZ 0 u a cap fas _ HS.out (HT.out.below hB.out)).mono ?_
  rintro e w4 ⟨⟨B4, y4, rfl, hB4, hR4, hc4, hz4, hy4⟩, hb4⟩
  have hFR : Hid (∀ i, i < u.n → FnR B4 w4.heap.size (w4.alloc (.cells #[.slice (some ⟨B4, 0, none⟩) u.n u.n] 30)) B4 i (u.fn i)) := fun i hi => (FnR.of hR4 hz4 hy4 i hi).mv ((Mk.refl _ _ _).below (below_alloc _ _) (Nat.le_of_lt hz4.1))
  have HB4 : Hid (w3.heap.size ≤ B4 ∧ B4 < w4.heap.size) := ⟨hB4, hz4.1⟩
  have hT4 : Hid (FnsAt B4 (w4.alloc (.cells #[.slice (some ⟨B4, 0, none⟩) u.n u.n] 30)) u.n u.fn (some ⟨B4, 0, none⟩) y4) := hR4.alloc _
  have hC4 : Hid (∀ i, i < u.n → CapF (u.fn i) (y4 i)) := hc4
  replace hX : Hid (Has (w4.alloc (.cells #[.slice (some ⟨B4, 0, none⟩) u.n u.n] 30)) w.heap.size #[.slice a u.n cap]) := (hX.out.call hb4).alloc _
  have hY : Hid (Has (w4.alloc (.cells #[.slice (some ⟨B4, 0, none⟩) u.n u.n] 30)) w4.heap.size #[.slice (some ⟨B4, 0, none⟩) u.n u.n]) := Has.new _ _ _
  replace hB : Hid (Below w.heap.size w (w4.alloc (.cells #[.slice (some ⟨B4, 0, none⟩) u.n u.n] 30))) := below_a (below_call hB.out hb4) _
  have hB3 : Hid (Below w3.heap.size w3 (w4.alloc (.cells #[.slice (some ⟨B4, 0, none⟩) u.n u.n] 30))) := below_a hb4 _
  clear hb4 hR4 hc4 hz4 hy4 hB4
  go_wp2_with fail
  refine (implLines_calls _ u _ _ _ _ HS.out hC4.out hT4.out).mono ?_
  rintro e w5 ⟨⟨xs5, a5, cap5, rfl, hl5, _, ho5⟩, hb5⟩
  obtain rfl : xs5 = xs := hl5.uniq HL3.out
  obtain ⟨N, hN⟩ : ∃ N, N = (w4.alloc (.cells #[.slice (some ⟨B4, 0, none⟩) u.n u.n] 30)).heap.size := ⟨_, rfl⟩
  rw [← hN] at ho5
  have HNH : Hid (w4.heap.size ≤ N ∧ w3.heap.size ≤ N ∧ w.heap.size ≤ N) := by
    have h1 := HB4.out
    have h2 := hS3.out
    have h3 : N = w4.heap.size + 1 := by rw [hN]; simp
    show _ ∧ _ ∧ _
    omega
  have HO : Hid (w5.ownsRow N 3 1 (.slice a5 xs5.length cap5) xs5.length (sv xs5)) := ho5
  replace hFR : Hid (∀ i, i < u.n → FnR B4 w4.heap.size w5 B4 i (u.fn i)) := fun i hi => (hFR.out i hi).mv ((Mk.refl _ _ _).below hb5 (by have := HB4.out; simp; omega))
  replace hT4 : Hid (FnsAt B4 w5 u.n u.fn (some ⟨B4, 0, none⟩) y4) := hT4.out.below hb5
  replace hX : Hid (Has w5 w.heap.size #[.slice a u.n cap]) := hX.out.call hb5
  replace hY : Hid (Has w5 w4.heap.size #[.slice (some ⟨B4, 0, none⟩) u.n u.n]) := hY.out.call hb5
  replace hB : Hid (Below w.heap.size w w5) := below_call hB.out hb5
  replace hB3 : Hid (Below w3.heap.size w3 w5) := below_call hB3.out hb5
  clear hb5 hl5 ho5 hC4 hN
  go_wp2_with (go_at_call 8; refine (eqIntS_calls _ _ _ _ _ _ _ _ _ (by omega) (LiAt.own HO.out) (HLi.out.keep hB3.out (Nat.le_refl _))).mono ?_; rintro e w6 ⟨rfl, hb6⟩; replace HO : Hid (w6.ownsRow N 3 1 (.slice a5 xs5.length cap5) xs5.length (sv xs5)) := own_call HO.out hb6; replace hFR : Hid (∀ i, i < u.n → FnR B4 w4.heap.size w6 B4 i (u.fn i)) := (fun i hi => (hFR.out i hi).mv ((Mk.refl _ _ _).below hb6 (by have := HB4.out; have := hY.out.lt; omega))); replace hT4 : Hid (FnsAt B4 w6 u.n u.fn (some ⟨B4, 0, none⟩) y4) := hT4.out.below hb6; replace hX : Hid (Has w6 w.heap.size #[.slice a u.n cap]) := hX.out.call hb6; replace hY : Hid (Has w6 w4.heap.size #[.slice (some ⟨B4, 0, none⟩) u.n u.n]) := hY.out.call hb6; replace hB : Hid (Below w.heap.size w w6) := below_call hB.out hb6; replace hB3 : Hid (Below w3.heap.size w3 w6) := below_call hB3.out hb6; clear hb6)
  have r0 := hX.out.cell 0 rfl
  have r1 := hY.out.cell 0 rfl
  go_region_with (first | (go_at_call 6; refine (toUnit_calls 0 u a cap fas _ HS.out (HT.out.below (by first | exact hB.out.drew | exact hB.out))).mono ?_; rintro e w8 ⟨⟨B8, y8, rfl, _, hR8, _⟩, hb8⟩; have hT8 : Hid (FnsAt B8 w8 u.n u.fn (some ⟨B8, 0, none⟩) y8) := hR8; clear r0 r1; replace HO : Hid (w8.ownsRow N 3 1 (.slice a5 xs5.length cap5) xs5.length (sv xs5)) := own_call HO.out ((Below.refl _ _).drew.trans hb8); replace hFR : Hid (∀ i, i < u.n → FnR B4 w4.heap.size w8 B4 i (u.fn i)) := (fun i hi => (hFR.out i hi).mv ((Mk.refl _ _ _).below ((Below.refl _ _).drew.trans hb8) (by have := HB4.out; have := hY.out.lt; omega))); replace hT4 : Hid (FnsAt B4 w8 u.n u.fn (some ⟨B4, 0, none⟩) y4) := hT4.out.below ((Below.refl _ _).drew.trans hb8); replace hX : Hid (Has w8 w.heap.size #[.slice a u.n cap]) := hX.out.call ((Below.refl _ _).drew.trans hb8); replace hY : Hid (Has w8 w4.heap.size #[.slice (some ⟨B4, 0, none⟩) u.n u.n]) := hY.out.call ((Below.refl _ _).drew.trans hb8); replace hB : Hid (Below w.heap.size w w8) := below_call hB.out ((Below.refl _ _).drew.trans hb8); replace hB3 : Hid (Below w3.heap.size w3 w8) := below_call hB3.out ((Below.refl _ _).drew.trans hb8); clear hb8 hR8; have r1 := hY.out.cell 0 rfl) | (go_at_call 9; refine (eqUnit_calls _ _ u _ _ _ _ y4 y8 _ HW.out HS.out hT4.out hT8.out).mono ?_; rintro e w9 ⟨rfl, hb9⟩; clear r1; replace HO : Hid (w9.ownsRow N 3 1 (.slice a5 xs5.length cap5) xs5.length (sv xs5)) := own_call HO.out hb9; replace hFR : Hid (∀ i, i < u.n → FnR B4 w4.heap.size w9 B4 i (u.fn i)) := (fun i hi => (hFR.out i hi).mv ((Mk.refl _ _ _).below hb9 (by have := HB4.out; have := hY.out.lt; omega))); replace hX : Hid (Has w9 w.heap.size #[.slice a u.n cap]) := hX.out.call hb9; replace hY : Hid (Has w9 w4.heap.size #[.slice (some ⟨B4, 0, none⟩) u.n u.n]) := hY.out.call hb9; replace hB : Hid (Below w.heap.size w w9) := below_call hB.out hb9; replace hB3 : Hid (Below w3.heap.size w3 w9) := below_call hB3.out hb9; clear hb9 hT4 hT8))
  all_goals have r1 := hY.out.cell 0 rfl
  all_goals go_wp2_with (go_at_call 10; refine (markUnit_calls B4 w4.heap.size B4 _ _ u _ HS.out (by omega) (by omega) (by have := HB4.out; have := hY.out.lt; omega) hFR.out).mono ?_; rintro e wm ⟨⟨km, rfl, hkm⟩, hm⟩; clear r1 hY hFR; replace HO : Hid (wm.ownsRow N 3 1 (.slice a5 xs5.length cap5) xs5.length (sv xs5)) := own_mk HO.out hm HNH.out.1; replace hX : Hid (Has wm w.heap.size #[.slice a u.n cap]) := hX.out.keep hm.b (by have := HB4.out; have := hS3.out; omega); replace hB : Hid (Below w.heap.size w wm) := hB.out.trans (hm.b.mono (by have := HB4.out; have := hS3.out; omega)); replace hB3 : Hid (Below w3.heap.size w3 wm) := hB3.out.trans (hm.b.mono HB4.out.1); clear hm)
  all_goals (refine (eqIntS_calls _ _ _ _ _ _ _ _ _ (by omega) (LiAt.own HO.out) (HLi.out.keep hB3.out (Nat.le_refl _))).mono ?_; rintro e w10 ⟨rfl, hb10⟩; replace HO : Hid (w10.ownsRow N 3 1 (.slice a5 xs5.length cap5) xs5.length (sv xs5)) := own_call HO.out hb10; replace hX : Hid (Has w10 w.heap.size #[.slice a u.n cap]) := hX.out.call hb10; replace hB : Hid (Below w.heap.size w w10) := below_call hB.out hb10; replace hB3 : Hid (Below w3.heap.size w3 w10) := below_call hB3.out hb10; clear hb10)
  all_goals go_wp2_with (go_at_call 11; refine (markIntS_own N _ _ _ xs5 1 _ rfl hn3 (by omega) (by omega) HO.out).mono ?_; rintro e w11 ⟨rfl, ho11, hg11⟩; replace hX : Hid (Has w11 w.heap.size #[.slice a u.n cap]) := has_grown hX.out hg11 (fun e => by have h1 := (HO.out.lt _ ((own_bk _ _ _).trans e.symm)).1; have h2 := HNH.out.1; have h3 := HB4.out; have h4 := hS3.out; omega); replace hB : Hid (Below w.heap.size w w11) := hB.out.grown hg11 hB.out.size (fun k e => Nat.le_trans HNH.out.2.2 (HO.out.lt k ((own_bk _ _ _).trans e)).1); replace hB3 : Hid (Below w3.heap.size w3 w11) := hB3.out.grown hg11 hB3.out.size (fun k e => Nat.le_trans HNH.out.2.1 (HO.out.lt k ((own_bk _ _ _).trans e)).1); replace HO : Hid (w11.ownsRow N 3 1 (.slice a5 xs5.length cap5) xs5.length (sv (mkd 1 xs5.length))) := ho11; clear hg11 ho11)
  all_goals (refine (heldIntS_calls N _ _ _ 1 _ hn3 (by omega) (by omega) (IntsAt.mkd HO.out)).mono ?_; rintro e w' ⟨rfl, rfl⟩)
  all_goals have r0 := hX.out.cell 0 rfl
  all_goals go_wp2_with (first | (go_at_call 6; refine (toUnit_calls 0 u a cap fas _ HS.out (HT.out.below hB.out)).mono ?_; rintro e w12 ⟨⟨B12, y12, rfl, _, hR12, hc12⟩, hb12⟩; clear r0; have hT12 : Hid (FnsAt B12 w12 u.n u.fn (some ⟨B12, 0, none⟩) y12) := hR12; have hC12 : Hid (∀ i, i < u.n → CapF (u.fn i) (y12 i)) := hc12; replace HO : Hid (w12.ownsRow N 3 1 (.slice a5 xs5.length cap5) xs5.length (sv (mkd 1 xs5.length))) := own_call HO.out hb12; replace hX : Hid (Has w12 w.heap.size #[.slice a u.n cap]) := hX.out.call hb12; replace hB : Hid (Below w.heap.size w w12) := below_call hB.out hb12; replace hB3 : Hid (Below w3.heap.size w3 w12) := below_call hB3.out hb12; clear hb12 hR12 hc12) | (go_at_call 7; refine (implLines_calls _ u _ _ _ _ HS.out hC12.out hT12.out).mono ?_; rintro e w13 ⟨⟨xs13, a13, cap13, rfl, hl13, _, ho13⟩, hb13⟩; obtain rfl : xs13 = xs5 := hl13.uniq HL3.out; have HLh : Hid (LiAt 0 w13 a13 xs13) := RowN.less (LiAt.own ho13) (Nat.zero_le _); replace HO : Hid (w13.ownsRow N 3 1 (.slice a5 xs13.length cap5) xs13.length (sv (mkd 1 xs13.length))) := own_call HO.out hb13; replace hX : Hid (Has w13 w.heap.size #[.slice a u.n cap]) := hX.out.call hb13; replace hB : Hid (Below w.heap.size w w13) := below_call hB.out hb13; replace hB3 : Hid (Below w3.heap.size w3 w13) := below_call hB3.out hb13; clear hb13 hl13 ho13 hT12 hC12) | (go_at_call 8; refine (eqIntS_calls _ _ _ _ _ _ _ _ _ (by omega) HLh.out (HLi.out.keep hB3.out (Nat.le_refl _))).mono ?_; rintro e w14 ⟨rfl, hb14⟩; replace HO : Hid (w14.ownsRow N 3 1 (.slice a5 xs13.length cap5) xs13.length (sv (mkd 1 xs13.length))) := own_call HO.out hb14; replace hX : Hid (Has w14 w.heap.size #[.slice a u.n cap]) := hX.out.call hb14; replace hB : Hid (Below w.heap.size w w14) := below_call hB.out hb14; replace hB3 : Hid (Below w3.heap.size w3 w14) := below_call hB3.out hb14; clear hb14) | (go_at_call 12; refine (heldIntS_calls N _ _ _ 1 _ hn3 (by omega) (by omega) (IntsAt.mkd HO.out)).mono ?_; rintro e w' ⟨rfl, rfl⟩))
  all_goals go_ret
  all_goals exact ⟨rfl, hB.out⟩
end Go.Proofs.YtcpjnddkibbddaaGreat
