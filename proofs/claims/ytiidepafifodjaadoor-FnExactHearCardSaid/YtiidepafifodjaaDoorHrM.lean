import Derived.Test.YtiidepafifodjaaDoorHrK
/-! The program's reader: a report. -/
namespace Go.Proofs.YtiidepafifodjaaDoor
open Go.RowKit
attribute [local go_sem] run_store_float
attribute [local go_sem ↓] Go.wp_at_zero Go.wp_at_succ

/-- a report of one's own -/
structure RpO (N : Nat) (w : World) (p : RpL) (x : RpX) : Prop where
  r : hrsO N w x.ra x.rc p.xs
  v : hvsO N w x.va x.vc p.vs
  d : ∀ k j, bkB x.ra k → bkB x.va j → k < j
/-- what the report's reader leaves -/
def repP (H : Nat) (l : List UInt8) (w : World) (e : Ending) (w' : World) : Prop := ∃ p x, e = .returned (rpV p.d x) ∧ HpIs l p ∧ RpO w.heap.size w' p x ∧ Gx (fun k => k = H) w w'

theorem HS.wrote7 {w : World} {H B : Nat} {t : TypeId} {u : World} {ra : Option Addr} {rc : Nat} {r : List UInt8} {f : Bool} {y0 y1 y2 y3 y4 y5 y6 : Value} (h : HS w H B #[y0, y1, y2, y3, y4, y5, y6] t u ra rc r f) (v0 v1 v2 v3 v4 v5 v6 : Value) (o : Nat) : (((((((u.setCell ⟨B, 0, none⟩ v0).setCell ⟨B, 1, none⟩ v1).setCell ⟨B, 2, none⟩ v2).setCell ⟨B, 3, none⟩ v3).setCell ⟨B, 4, none⟩ v4).setCell ⟨B, 5, none⟩ v5).setCell ⟨B, 6, none⟩ v6).cell? ⟨B, o, none⟩ = (#[v0, v1, v2, v3, v4, v5, v6] : Array Value)[o]? := by
  have hz := h.z
  simp [World.cell?, World.setCell, Array.getElem?_modify, hz]

set_option maxRecDepth 100000 in
set_option maxHeartbeats 8000000 in
theorem report_calls (H N0 : Nat) (ra0 : Option Addr) (rc0 : Nat) (r0 : List UInt8) (w : World) (hl0 : r0.length ≤ 1048576) (hN : N0 ≤ w.heap.size) (hH : N0 ≤ H) (hE : ∀ u, Below N0 w u → ErrP u) (hX : HrX H w ra0 rc0 r0 false) :
    Calls Tryd.prog 31 #[.pointer (some ⟨H, 0, none⟩)] w fun e w' => repP H r0 w e w' := by
  have HX : Hid (HrX H w ra0 rc0 r0 false) := hX
  have HE : Hid (∀ u, Below N0 w u → ErrP u) := hE
  have HHw : Hid (H < w.heap.size) := hX.hlt
  clear hX hE
  obtain ⟨f0, hf0⟩ : ∃ f0, f0 = false := ⟨_, rfl⟩
  have HF0 : Hid (f0 = false) := hf0
  rw [← hf0] at HX
  clear hf0
  go_enter Tryd.func31, Tryd.ntmps31
  have HS0 := HS.start HX.out #[.int .i64 0, .slice none 0 0, .slice none 0 0, .string ⟨#[]⟩, .string ⟨#[]⟩, .int .i64 0, .int .i64 0] 31
  have HS0 : Hid (HS w H w.heap.size #[.int .i64 0, .slice none 0 0, .slice none 0 0, .string ⟨#[]⟩, .string ⟨#[]⟩, .int .i64 0, .int .i64 0] 31 _ ra0 rc0 r0 f0) := HS0
  go_wp2_with fail
  refine (number_calls H N0 ra0 rc0 r0 f0 _ hl0 (by have := HS0.out.g.size; omega) (Gx.err HE.out HS0.out.g hN hH) HS0.out.x).mono ?_
  rintro e w1 ⟨k1, ra1, rc1, r1, f1, rfl, h1, hx, hg⟩
  have H1 : Hid (HnIs r0 f0 k1 r1 f1) := h1
  have HS1 := HS0.out.call hx hg
  have HS1 : Hid (HS w H w.heap.size #[.int .i64 0, .slice none 0 0, .slice none 0 0, .string ⟨#[]⟩, .string ⟨#[]⟩, .int .i64 0, .int .i64 0] 31 w1 ra1 rc1 r1 f1) := HS1
  clear h1 hx hg HS0
  have hl1 : r1.length ≤ 1048576 := Nat.le_trans H1.out.le hl0
  go_wp2_with fail
  refine (number_calls H N0 ra1 rc1 r1 f1 _ hl1 (by have := HS1.out.g.size; omega) (Gx.err HE.out HS1.out.g hN hH) HS1.out.x).mono ?_
  rintro e w2 ⟨k2, ra2, rc2, r2, f2, rfl, h2, hx, hg⟩
  have H2 : Hid (HnIs r1 f1 k2 r2 f2) := h2
  have HS2 := HS1.out.call hx hg
  have HS2 : Hid (HS w H w.heap.size #[.int .i64 0, .slice none 0 0, .slice none 0 0, .string ⟨#[]⟩, .string ⟨#[]⟩, .int .i64 0, .int .i64 0] 31 w2 ra2 rc2 r2 f2) := HS2
  clear h2 hx hg HS1
  have hl2 : r2.length ≤ 1048576 := Nat.le_trans H2.out.le hl1
  go_wp2_with fail
  refine (number_calls H N0 ra2 rc2 r2 f2 _ hl2 (by have := HS2.out.g.size; omega) (Gx.err HE.out HS2.out.g hN hH) HS2.out.x).mono ?_
  rintro e w3 ⟨k3, ra3, rc3, r3, f3, rfl, h3, hx, hg⟩
  have H3 : Hid (HnIs r2 f2 k3 r3 f3) := h3
  have HS3 := HS2.out.call hx hg
  have HS3 : Hid (HS w H w.heap.size #[.int .i64 0, .slice none 0 0, .slice none 0 0, .string ⟨#[]⟩, .string ⟨#[]⟩, .int .i64 0, .int .i64 0] 31 w3 ra3 rc3 r3 f3) := HS3
  clear h3 hx hg HS2
  have hl3 : r3.length ≤ 1048576 := Nat.le_trans H3.out.le hl2
  go_wp2_with fail
  refine (hrs_calls H N0 ra3 rc3 r3 f3 _ hl3 (by have := HS3.out.g.size; omega) hH (Gx.err HE.out HS3.out.g hN hH) HS3.out.x).mono ?_
  rintro e w4 ⟨xs4, a4, cap4, ra4, rc4, r4, f4, rfl, h4, ho4, hx, hg⟩
  have H4 : Hid (HlIs recL okR r3 f3 xs4 r4 f4) := h4
  have HO4 : Hid (hrsO w3.heap.size w4 a4 cap4 xs4) := ho4
  have HB4 : Hid (w.heap.size < w3.heap.size ∧ w4.heap.size ≥ w3.heap.size) := ⟨HS3.out.lt, hg.size⟩
  have HS4 := HS3.out.call hx hg
  have HS4 : Hid (HS w H w.heap.size #[.int .i64 0, .slice none 0 0, .slice none 0 0, .string ⟨#[]⟩, .string ⟨#[]⟩, .int .i64 0, .int .i64 0] 31 w4 ra4 rc4 r4 f4) := HS4
  have HD4 : Hid (∀ k, bkB a4 k → k < w4.heap.size) := fun k h1 => (HO4.out.lt k ((bkB_own _ _ _ _).2 h1)).2
  clear h4 ho4 hx hg HS3
  have hl4 : r4.length ≤ 1048576 := Nat.le_trans H4.out.le hl3
  go_wp2_with fail
  refine (hvs_calls H N0 ra4 rc4 r4 f4 _ hl4 (by have := HS4.out.g.size; omega) hH (Gx.err HE.out HS4.out.g hN hH) HS4.out.x).mono ?_
  rintro e w5 ⟨xs5, a5, cap5, ra5, rc5, r5, f5, rfl, h5, ho5, hx, hg⟩
  have H5 : Hid (HlIs txtL okT r4 f4 xs5 r5 f5) := h5
  have HO5 : Hid (hvsO w4.heap.size w5 a5 cap5 xs5) := ho5
  have HB5 : Hid (w.heap.size < w4.heap.size ∧ w5.heap.size ≥ w4.heap.size) := ⟨HS4.out.lt, hg.size⟩
  have HS5 := HS4.out.call hx hg
  have HS5 : Hid (HS w H w.heap.size #[.int .i64 0, .slice none 0 0, .slice none 0 0, .string ⟨#[]⟩, .string ⟨#[]⟩, .int .i64 0, .int .i64 0] 31 w5 ra5 rc5 r5 f5) := HS5
  replace HO4 : Hid (hrsO w3.heap.size w5 a4 cap4 xs4) := ownsK_block HO4.out (fun k e => hg.block k (HO4.out.lt k e).2 (by have := (HO4.out.lt k e).1; have := HB4.out.1; have := HHw.out; omega))
  have HD : Hid (∀ k j, bkB a4 k → bkB a5 j → k < j) := fun k j h1 h2 => by
    have q1 := HD4.out k h1
    have q2 := (HO5.out.lt j ((bkB_own _ _ _ _).2 h2)).1
    omega
  clear h5 ho5 hx hg HS4
  have hl5 : r5.length ≤ 1048576 := Nat.le_trans H5.out.le hl4
  go_wp2_with fail
  refine (htext_calls H N0 ra5 rc5 r5 f5 _ hl5 (by have := HS5.out.g.size; omega) (Gx.err HE.out HS5.out.g hN hH) HS5.out.x).mono ?_
  rintro e w6 ⟨s6, ra6, rc6, r6, f6, rfl, h6, hx, hg⟩
  have H6 : Hid (HtIs r5 f5 s6 r6 f6) := h6
  have HS6 := HS5.out.call hx hg
  have HS6 : Hid (HS w H w.heap.size #[.int .i64 0, .slice none 0 0, .slice none 0 0, .string ⟨#[]⟩, .string ⟨#[]⟩, .int .i64 0, .int .i64 0] 31 w6 ra6 rc6 r6 f6) := HS6
  replace HO4 : Hid (hrsO w3.heap.size w6 a4 cap4 xs4) := ownsK_block HO4.out (fun k e => hg.block k (HO4.out.lt k e).2 (by have := (HO4.out.lt k e).1; have := HB4.out.1; have := HHw.out; omega))
  replace HO5 : Hid (hvsO w4.heap.size w6 a5 cap5 xs5) := ownsK_block HO5.out (fun k e => hg.block k (HO5.out.lt k e).2 (by have := (HO5.out.lt k e).1; have := HB5.out.1; have := HHw.out; omega))
  clear h6 hx hg HS5
  have hl6 : r6.length ≤ 1048576 := Nat.le_trans H6.out.le hl5
  go_wp2_with fail
  refine (htext_calls H N0 ra6 rc6 r6 f6 _ hl6 (by have := HS6.out.g.size; omega) (Gx.err HE.out HS6.out.g hN hH) HS6.out.x).mono ?_
  rintro e w7 ⟨s7, ra7, rc7, r7, f7, rfl, h7, hx, hg⟩
  have H7 : Hid (HtIs r6 f6 s7 r7 f7) := h7
  have HS7 := HS6.out.call hx hg
  have HS7 : Hid (HS w H w.heap.size #[.int .i64 0, .slice none 0 0, .slice none 0 0, .string ⟨#[]⟩, .string ⟨#[]⟩, .int .i64 0, .int .i64 0] 31 w7 ra7 rc7 r7 f7) := HS7
  replace HO4 : Hid (hrsO w3.heap.size w7 a4 cap4 xs4) := ownsK_block HO4.out (fun k e => hg.block k (HO4.out.lt k e).2 (by have := (HO4.out.lt k e).1; have := HB4.out.1; have := HHw.out; omega))
  replace HO5 : Hid (hvsO w4.heap.size w7 a5 cap5 xs5) := ownsK_block HO5.out (fun k e => hg.block k (HO5.out.lt k e).2 (by have := (HO5.out.lt k e).1; have := HB5.out.1; have := HHw.out; omega))
  clear h7 hx hg HS6
  have hl7 : r7.length ≤ 1048576 := Nat.le_trans H7.out.le hl6
  have HP : Hid (HpIs r0 ⟨k1, k2, k3, xs4, xs5, s6, s7⟩) := by
    have h := H1.out
    rw [HF0.out] at h
    exact hp_is hl0 h H2.out H3.out H4.out H5.out H6.out H7.out
  clear H1 H2 H3 H4 H5 H6 H7
  have z0 := HS7.out.cell 0
  have z1 := HS7.out.cell 1
  have z2 := HS7.out.cell 2
  have z3 := HS7.out.cell 3
  have z4 := HS7.out.cell 4
  have z5 := HS7.out.cell 5
  have z6 := HS7.out.cell 6
  have zf := HS7.out.fz
  have zb := HS7.out.lt
  have HG7 : Hid (Gx (fun k => k = H) w w7) := HS7.out.g
  go_wp2_with fail
  obtain ⟨we, hwe⟩ : ∃ we, (((((((w7.setCell ⟨w.heap.size, 0, none⟩ (.int .i64 k1)).setCell ⟨w.heap.size, 1, none⟩ (.slice a4 xs4.length cap4)).setCell ⟨w.heap.size, 2, none⟩ (.slice a5 xs5.length cap5)).setCell ⟨w.heap.size, 3, none⟩ (.string s6)).setCell ⟨w.heap.size, 4, none⟩ (.string s7)).setCell ⟨w.heap.size, 5, none⟩ (.int .i64 k2)).setCell ⟨w.heap.size, 6, none⟩ (.int .i64 k3)) = we := ⟨_, rfl⟩
  have HGb : Hid (Gx (fun k => k = w.heap.size) w7 we) := by rw [← hwe]; exact ((((((Gx.set _ _ _ _).sets _ _).sets _ _).sets _ _).sets _ _).sets _ _).sets _ _
  have HGe : Hid (Gx (fun k => k = H) w we) := (HS7.out.out HGb.out).2
  have HR : Hid (RpO w.heap.size we ⟨k1, k2, k3, xs4, xs5, s6, s7⟩ ⟨a4, cap4, a5, cap5⟩) := ⟨ownsK_base' (ownsK_block HO4.out (fun k e => HGb.out.block k (HO4.out.lt k e).2 (by have := (HO4.out.lt k e).1; have := HB4.out.1; omega))) (by have := HB4.out.1; omega), ownsK_base' (ownsK_block HO5.out (fun k e => HGb.out.block k (HO5.out.lt k e).2 (by have := (HO5.out.lt k e).1; have := HB5.out.1; omega))) (by have := HB5.out.1; omega), HD.out⟩
  have ec : ∀ o, we.cell? ⟨w.heap.size, o, none⟩ = (#[.int .i64 k1, .slice a4 xs4.length cap4, .slice a5 xs5.length cap5, .string s6, .string s7, .int .i64 k2, .int .i64 k3] : Array Value)[o]? := by
    rw [← hwe]
    exact HS7.out.wrote7 _ _ _ _ _ _ _
  rw [hwe]
  have e0 := ec 0
  have e1 := ec 1
  have e2 := ec 2
  have e3 := ec 3
  have e4 := ec 4
  have e5 := ec 5
  have e6 := ec 6
  clear z0 z1 z2 z3 z4 z5 z6 hwe ec
  refine bodyPost_ret (v := rpV (RpL.d ⟨k1, k2, k3, xs4, xs5, s6, s7⟩) ⟨a4, cap4, a5, cap5⟩) (by simp [results, Tryd.results31, go_sem, e0, e1, e2, e3, e4, e5, e6]; exact ⟨rfl, rfl, rfl, rfl, rfl, rfl, rfl⟩) rfl ?_
  unfold repP
  exact ⟨_, _, rfl, HP.out, HR.out, HGe.out⟩
end Go.Proofs.YtiidepafifodjaaDoor
