import Derived.Test.YtiidepafifodjaaDoorHrO
/-! The specification's Hear. -/
namespace Go.Proofs.YtiidepafifodjaaDoor
open Go.RowKit
attribute [local go_sem] run_store_float
attribute [local go_sem ↓] Go.wp_at_zero Go.wp_at_succ

set_option maxRecDepth 100000 in
set_option maxHeartbeats 16000000 in
theorem specHear_calls (a : Option Addr) (cap : Nat) (l : List UInt8) (w : World) (hl : l.length ≤ 1048576) (hcap : l.length ≤ cap) (hy : ByAt 0 w a l) (hne : ∀ b, a = some b → b.block < w.heap.size) (hRs : RsAt w a cap l) :
    Calls Tryd.prog 14 #[.slice a l.length cap] w fun e w' => hearP l w e w' := by
  have HY : Hid (ByAt 0 w a l) := hy
  have HNe : Hid (∀ b, a = some b → b.block < w.heap.size) := hne
  have HRs : Hid (RsAt w a cap l) := hRs
  clear hy hne hRs
  go_enter Tryd.func14, Tryd.ntmps14
  by_cases hlong : (1000000 : Int) < (l.length : Int)
  · have HL : Hid (HearIs l RpL.zero) := hear_long (by omega)
    go_wp2_with fail
    refine bodyPost_ret (v := rpV (RpL.d RpL.zero) ⟨none, 0, none, 0⟩) (by simp [results, Tryd.results14, go_sem]; exact ⟨rfl, rfl, rfl, rfl, rfl, rfl, rfl⟩) rfl ?_
    unfold hearP
    exact ⟨RpL.zero, ⟨none, 0, none, 0⟩, rfl, HL.out, RpL.zero_ok, ⟨World.ownsRow_nil _ _ _ _, World.ownsRow_nil _ _ _ _, fun _ _ h => by cases h⟩, below_alloc _ _⟩
  have HS0 : Hid (SX w a cap l #[.int .i64 0, .slice none 0 0, .slice none 0 0, .string ⟨#[]⟩, .string ⟨#[]⟩, .int .i64 0, .int .i64 0] (((w.alloc (.cells #[.int .i64 0, .slice none 0 0, .slice none 0 0, .string ⟨#[]⟩, .string ⟨#[]⟩, .int .i64 0, .int .i64 0] 31)).alloc (.cells #[.slice a l.length cap, .int .i64 0, .bool false] 56)).alloc (.cells #[.int .i64 0, .slice none 0 0, .slice none 0 0, .string ⟨#[]⟩, .string ⟨#[]⟩, .int .i64 0, .int .i64 0] 31)) 0 false) := SX.start HY.out HNe.out
  go_wp2_with fail
  refine (num_calls (w.heap.size + 1) a cap l 0 false _ hl (HS0.out.lt) HS0.out.rd HS0.out.by' HS0.out.neR).mono ?_
  rintro e w1 ⟨k1, p1, b1, rfl, hi, hr, hg⟩
  have H1 : Hid (HnIs (l.drop 0) false k1 (l.drop p1) b1) := hi.hn
  have HS1 : Hid (SX w a cap l #[.int .i64 0, .slice none 0 0, .slice none 0 0, .string ⟨#[]⟩, .string ⟨#[]⟩, .int .i64 0, .int .i64 0] w1 p1 b1) := HS0.out.read hr hg hi.lt
  have o0 : w1.cell? ⟨w.heap.size + 2, 0, none⟩ = some (.int .i64 0) := HS1.out.oc 0
  have of := HS1.out.of
  have HT1 : Hid (SX w a cap l #[.int .i64 k1, .slice none 0 0, .slice none 0 0, .string ⟨#[]⟩, .string ⟨#[]⟩, .int .i64 0, .int .i64 0] (w1.setCell ⟨w.heap.size + 2, 0, none⟩ (.int .i64 k1)) p1 b1) := HS1.out.set 0 (.int .i64 k1)
  clear hi hr hg HS1
  go_wp2_with fail
  clear o0 of
  refine (num_calls (w.heap.size + 1) a cap l p1 b1 _ hl (HT1.out.lt) HT1.out.rd HT1.out.by' HT1.out.neR).mono ?_
  rintro e w2 ⟨k2, p2, b2, rfl, hi, hr, hg⟩
  have H2 : Hid (HnIs (l.drop p1) b1 k2 (l.drop p2) b2) := hi.hn
  have HS2 : Hid (SX w a cap l #[.int .i64 k1, .slice none 0 0, .slice none 0 0, .string ⟨#[]⟩, .string ⟨#[]⟩, .int .i64 0, .int .i64 0] w2 p2 b2) := HT1.out.read hr hg hi.lt
  have o0 : w2.cell? ⟨w.heap.size + 2, 5, none⟩ = some (.int .i64 0) := HS2.out.oc 5
  have of := HS2.out.of
  have HT2 : Hid (SX w a cap l #[.int .i64 k1, .slice none 0 0, .slice none 0 0, .string ⟨#[]⟩, .string ⟨#[]⟩, .int .i64 k2, .int .i64 0] (w2.setCell ⟨w.heap.size + 2, 5, none⟩ (.int .i64 k2)) p2 b2) := HS2.out.set 5 (.int .i64 k2)
  clear hi hr hg HS2
  go_wp2_with fail
  clear o0 of
  refine (num_calls (w.heap.size + 1) a cap l p2 b2 _ hl (HT2.out.lt) HT2.out.rd HT2.out.by' HT2.out.neR).mono ?_
  rintro e w3 ⟨k3, p3, b3, rfl, hi, hr, hg⟩
  have H3 : Hid (HnIs (l.drop p2) b2 k3 (l.drop p3) b3) := hi.hn
  have HS3 : Hid (SX w a cap l #[.int .i64 k1, .slice none 0 0, .slice none 0 0, .string ⟨#[]⟩, .string ⟨#[]⟩, .int .i64 k2, .int .i64 0] w3 p3 b3) := HT2.out.read hr hg hi.lt
  have o0 : w3.cell? ⟨w.heap.size + 2, 6, none⟩ = some (.int .i64 0) := HS3.out.oc 6
  have of := HS3.out.of
  have HT3 : Hid (SX w a cap l #[.int .i64 k1, .slice none 0 0, .slice none 0 0, .string ⟨#[]⟩, .string ⟨#[]⟩, .int .i64 k2, .int .i64 k3] (w3.setCell ⟨w.heap.size + 2, 6, none⟩ (.int .i64 k3)) p3 b3) := HS3.out.set 6 (.int .i64 k3)
  clear hi hr hg HS3
  go_wp2_with fail
  clear o0 of
  refine (num_calls (w.heap.size + 1) a cap l p3 b3 _ hl (HT3.out.lt) HT3.out.rd HT3.out.by' HT3.out.neR).mono ?_
  rintro e w4 ⟨k4, p4, b4, rfl, hi, hr, hg⟩
  have H4 : Hid (HnIs (l.drop p3) b3 k4 (l.drop p4) b4) := hi.hn
  have HS4 : Hid (SX w a cap l #[.int .i64 k1, .slice none 0 0, .slice none 0 0, .string ⟨#[]⟩, .string ⟨#[]⟩, .int .i64 k2, .int .i64 k3] w4 p4 b4) := HT3.out.read hr hg hi.lt
  have HI : Hid (LsI recL okR (l.drop p3) b3 k4 [] (l.drop p4) b4) := LsI.start H4.out
  have hni := H4.out.i
  unfold I64r at hni
  have HO : Hid (hrsO (w.heap.size + 3) w4 none 0 []) := World.ownsRow_nil _ _ _ _
  clear hi hr hg H4
  go_wp2_with fail
  go_loopw [5] (fun mv wr => ∃ (xs : List RcD) (a1 : Option Addr) (cap1 : Nat) (k : Nat) (m : Int) (p : Nat) (bd : Bool), mv = .int .i64 m ∧ Hid (xs.length = k) ∧ Hid (m = k4 - (xs.length : Int)) ∧ Hid (LsI recL okR (l.drop p3) b3 k4 xs (l.drop p) bd) ∧ Hid (hrsO (w.heap.size + 3) wr a1 cap1 xs) ∧ Hid (SX w a cap l #[.int .i64 k1, .slice a1 k cap1, .slice none 0 0, .string ⟨#[]⟩, .string ⟨#[]⟩, .int .i64 k2, .int .i64 k3] wr p bd)) (fun mv _ => (intOf mv).toNat)
  case atStart => exact ⟨[], none, 0, 0, k4, p4, b4, rfl, rfl, by show _ = _; simp, HI, HO, HS4⟩
  case round =>
    clear HS4 HO HI
    obtain ⟨xs, a1, cap1, k, m, p, bd, rfl, HK, HM, HI, HO, HS⟩ := hrel
    have c2 := HS.out.rd.c2
    have hm1 : m ≤ 9223372036854775807 := by rw [HM.out]; omega
    have hkr : k ≤ 1048576 := by have := HI.out.d; rw [HK.out, List.length_drop] at this; omega
    go_upto_region 9 with fail
    go_cut [35] (fun v wc => ∃ b0 : Bool, v = .bool b0 ∧ Hid (b0 = true ↔ (0 < m ∧ bd = false)) ∧ wr = wc)
    case first =>
      by_cases h0 : 0 < m
      · cases bd
        · go_wp2_with fail
          go_meet
          exact ⟨true, rfl, (by show _ ↔ _; constructor; (· intro _; exact ⟨by omega, by trivial⟩); (· intro _; trivial)), rfl⟩
        · go_wp2_with fail
          go_meet
          exact ⟨false, rfl, (by show _ ↔ _; constructor; (· intro h; cases h); (· intro h; cases h.2)), rfl⟩
      · go_wp2_with fail
        go_meet
        exact ⟨false, rfl, (by show _ ↔ _; constructor; (· intro h; cases h); (· intro h; have := h.1; omega)), rfl⟩
    case rest =>
    obtain ⟨b0, rfl, HB0, hwc⟩ := hcut
    subst hwc
    clear c2
    cases b0
    case true =>
      · obtain ⟨h0, rfl⟩ := HB0.out.1 rfl
        clear HB0
        have HX2 : Hid (w.heap.size + 2 < wr.heap.size) := HS.out.sz
        have HOl : Hid (∀ q, bkB a1 q → q < wr.heap.size) := fun q h => (HO.out.lt q ((bkB_own _ _ _ _).2 h)).2
        have hXO : ¬ w.heap.size + 2 = wr.heap.size := by have := HX2.out; omega
        have hXO' : ¬ wr.heap.size = w.heap.size + 2 := by have := HX2.out; omega
        replace HS : Hid (SX w a cap l #[.int .i64 k1, .slice a1 k cap1, .slice none 0 0, .string ⟨#[]⟩, .string ⟨#[]⟩, .int .i64 k2, .int .i64 k3] (wr.alloc (.cells #[.int .i64 0, .int .i64 0, .int .i64 0, .int .i64 0, .string ⟨#[]⟩] 49)) p false) := HS.out.call (below_alloc _ _)
        replace HO : Hid (hrsO (w.heap.size + 3) (wr.alloc (.cells #[.int .i64 0, .int .i64 0, .int .i64 0, .int .i64 0, .string ⟨#[]⟩] 49)) a1 cap1 xs) := ownsK_below HO.out (below_alloc _ _)
        have HXb : Hid (XbP wr.heap.size #[.int .i64 0, .int .i64 0, .int .i64 0, .int .i64 0, .string ⟨#[]⟩] (wr.alloc (.cells #[.int .i64 0, .int .i64 0, .int .i64 0, .int .i64 0, .string ⟨#[]⟩] 49))) := (MapKept.heap_alloc wr (.cells #[.int .i64 0, .int .i64 0, .int .i64 0, .int .i64 0, .string ⟨#[]⟩] 49)).1
        go_wp2_with fail
        refine (num_calls (w.heap.size + 1) a cap l p false _ hl (HS.out.lt) HS.out.rd HS.out.by' HS.out.neR).mono ?_
        rintro e w5 ⟨k5, p5, b5, rfl, hi, hr, hg⟩
        have H5 : Hid (HnIs (l.drop p) false k5 (l.drop p5) b5) := hi.hn
        have HS5 : Hid (SX w a cap l #[.int .i64 k1, .slice a1 k cap1, .slice none 0 0, .string ⟨#[]⟩, .string ⟨#[]⟩, .int .i64 k2, .int .i64 k3] w5 p5 b5) := HS.out.read hr hg hi.lt
        have HX5 : Hid (XbP wr.heap.size #[.int .i64 0, .int .i64 0, .int .i64 0, .int .i64 0, .string ⟨#[]⟩] w5) := (hg.block _ (Array.getElem?_eq_some_iff.1 HXb.out).1 (by have := HX2.out; show ¬ _ = _; omega)).trans HXb.out
        replace HO : Hid (hrsO (w.heap.size + 3) w5 a1 cap1 xs) := ownsK_block HO.out (fun q e => hg.block q (HO.out.lt q e).2 (by have := (HO.out.lt q e).1; show ¬ _ = _; omega))
        clear hi hr hg HS HXb
        have x0 : w5.cell? ⟨wr.heap.size, 0, none⟩ = some (.int .i64 0) := HX5.out.c 0
        have xf := HX5.out.f
        have HT5 : Hid (SX w a cap l #[.int .i64 k1, .slice a1 k cap1, .slice none 0 0, .string ⟨#[]⟩, .string ⟨#[]⟩, .int .i64 k2, .int .i64 k3] (w5.setCell ⟨wr.heap.size, 0, none⟩ (.int .i64 k5)) p5 b5) := HS5.out.other (Gx.set _ _ _ _) HX2.out
        have HXb : Hid (XbP wr.heap.size #[.int .i64 k5, .int .i64 0, .int .i64 0, .int .i64 0, .string ⟨#[]⟩] (w5.setCell ⟨wr.heap.size, 0, none⟩ (.int .i64 k5))) := HX5.out.set 0 (.int .i64 k5)
        replace HO : Hid (hrsO (w.heap.size + 3) (w5.setCell ⟨wr.heap.size, 0, none⟩ (.int .i64 k5)) a1 cap1 xs) := ownsK_block HO.out (fun j e => Below.heap_setCell _ _ _ _ (by have := HOl.out j ((bkB_own _ _ _ _).1 e); show ¬ j = wr.heap.size; omega))
        clear HS5 HX5
        go_wp2_with fail
        clear x0 xf
        refine (num_calls (w.heap.size + 1) a cap l p5 b5 _ hl (HT5.out.lt) HT5.out.rd HT5.out.by' HT5.out.neR).mono ?_
        rintro e w6 ⟨k6, p6, b6, rfl, hi, hr, hg⟩
        have H6 : Hid (HnIs (l.drop p5) b5 k6 (l.drop p6) b6) := hi.hn
        have HS6 : Hid (SX w a cap l #[.int .i64 k1, .slice a1 k cap1, .slice none 0 0, .string ⟨#[]⟩, .string ⟨#[]⟩, .int .i64 k2, .int .i64 k3] w6 p6 b6) := HT5.out.read hr hg hi.lt
        have HX6 : Hid (XbP wr.heap.size #[.int .i64 k5, .int .i64 0, .int .i64 0, .int .i64 0, .string ⟨#[]⟩] w6) := (hg.block _ (Array.getElem?_eq_some_iff.1 HXb.out).1 (by have := HX2.out; show ¬ _ = _; omega)).trans HXb.out
        replace HO : Hid (hrsO (w.heap.size + 3) w6 a1 cap1 xs) := ownsK_block HO.out (fun q e => hg.block q (HO.out.lt q e).2 (by have := (HO.out.lt q e).1; show ¬ _ = _; omega))
        clear hi hr hg HT5 HXb
        have x0 : w6.cell? ⟨wr.heap.size, 1, none⟩ = some (.int .i64 0) := HX6.out.c 1
        have xf := HX6.out.f
        have HT6 : Hid (SX w a cap l #[.int .i64 k1, .slice a1 k cap1, .slice none 0 0, .string ⟨#[]⟩, .string ⟨#[]⟩, .int .i64 k2, .int .i64 k3] (w6.setCell ⟨wr.heap.size, 1, none⟩ (.int .i64 k6)) p6 b6) := HS6.out.other (Gx.set _ _ _ _) HX2.out
        have HXb : Hid (XbP wr.heap.size #[.int .i64 k5, .int .i64 k6, .int .i64 0, .int .i64 0, .string ⟨#[]⟩] (w6.setCell ⟨wr.heap.size, 1, none⟩ (.int .i64 k6))) := HX6.out.set 1 (.int .i64 k6)
        replace HO : Hid (hrsO (w.heap.size + 3) (w6.setCell ⟨wr.heap.size, 1, none⟩ (.int .i64 k6)) a1 cap1 xs) := ownsK_block HO.out (fun j e => Below.heap_setCell _ _ _ _ (by have := HOl.out j ((bkB_own _ _ _ _).1 e); show ¬ j = wr.heap.size; omega))
        clear HS6 HX6
        go_wp2_with fail
        clear x0 xf
        refine (num_calls (w.heap.size + 1) a cap l p6 b6 _ hl (HT6.out.lt) HT6.out.rd HT6.out.by' HT6.out.neR).mono ?_
        rintro e w7 ⟨k7, p7, b7, rfl, hi, hr, hg⟩
        have H7 : Hid (HnIs (l.drop p6) b6 k7 (l.drop p7) b7) := hi.hn
        have HS7 : Hid (SX w a cap l #[.int .i64 k1, .slice a1 k cap1, .slice none 0 0, .string ⟨#[]⟩, .string ⟨#[]⟩, .int .i64 k2, .int .i64 k3] w7 p7 b7) := HT6.out.read hr hg hi.lt
        have HX7 : Hid (XbP wr.heap.size #[.int .i64 k5, .int .i64 k6, .int .i64 0, .int .i64 0, .string ⟨#[]⟩] w7) := (hg.block _ (Array.getElem?_eq_some_iff.1 HXb.out).1 (by have := HX2.out; show ¬ _ = _; omega)).trans HXb.out
        replace HO : Hid (hrsO (w.heap.size + 3) w7 a1 cap1 xs) := ownsK_block HO.out (fun q e => hg.block q (HO.out.lt q e).2 (by have := (HO.out.lt q e).1; show ¬ _ = _; omega))
        clear hi hr hg HT6 HXb
        have x0 : w7.cell? ⟨wr.heap.size, 2, none⟩ = some (.int .i64 0) := HX7.out.c 2
        have xf := HX7.out.f
        have HT7 : Hid (SX w a cap l #[.int .i64 k1, .slice a1 k cap1, .slice none 0 0, .string ⟨#[]⟩, .string ⟨#[]⟩, .int .i64 k2, .int .i64 k3] (w7.setCell ⟨wr.heap.size, 2, none⟩ (.int .i64 k7)) p7 b7) := HS7.out.other (Gx.set _ _ _ _) HX2.out
        have HXb : Hid (XbP wr.heap.size #[.int .i64 k5, .int .i64 k6, .int .i64 k7, .int .i64 0, .string ⟨#[]⟩] (w7.setCell ⟨wr.heap.size, 2, none⟩ (.int .i64 k7))) := HX7.out.set 2 (.int .i64 k7)
        replace HO : Hid (hrsO (w.heap.size + 3) (w7.setCell ⟨wr.heap.size, 2, none⟩ (.int .i64 k7)) a1 cap1 xs) := ownsK_block HO.out (fun j e => Below.heap_setCell _ _ _ _ (by have := HOl.out j ((bkB_own _ _ _ _).1 e); show ¬ j = wr.heap.size; omega))
        clear HS7 HX7
        go_wp2_with fail
        clear x0 xf
        refine (num_calls (w.heap.size + 1) a cap l p7 b7 _ hl (HT7.out.lt) HT7.out.rd HT7.out.by' HT7.out.neR).mono ?_
        rintro e w8 ⟨k8, p8, b8, rfl, hi, hr, hg⟩
        have H8 : Hid (HnIs (l.drop p7) b7 k8 (l.drop p8) b8) := hi.hn
        have HS8 : Hid (SX w a cap l #[.int .i64 k1, .slice a1 k cap1, .slice none 0 0, .string ⟨#[]⟩, .string ⟨#[]⟩, .int .i64 k2, .int .i64 k3] w8 p8 b8) := HT7.out.read hr hg hi.lt
        have HX8 : Hid (XbP wr.heap.size #[.int .i64 k5, .int .i64 k6, .int .i64 k7, .int .i64 0, .string ⟨#[]⟩] w8) := (hg.block _ (Array.getElem?_eq_some_iff.1 HXb.out).1 (by have := HX2.out; show ¬ _ = _; omega)).trans HXb.out
        replace HO : Hid (hrsO (w.heap.size + 3) w8 a1 cap1 xs) := ownsK_block HO.out (fun q e => hg.block q (HO.out.lt q e).2 (by have := (HO.out.lt q e).1; show ¬ _ = _; omega))
        clear hi hr hg HT7 HXb
        have x0 : w8.cell? ⟨wr.heap.size, 3, none⟩ = some (.int .i64 0) := HX8.out.c 3
        have xf := HX8.out.f
        have HT8 : Hid (SX w a cap l #[.int .i64 k1, .slice a1 k cap1, .slice none 0 0, .string ⟨#[]⟩, .string ⟨#[]⟩, .int .i64 k2, .int .i64 k3] (w8.setCell ⟨wr.heap.size, 3, none⟩ (.int .i64 k8)) p8 b8) := HS8.out.other (Gx.set _ _ _ _) HX2.out
        have HXb : Hid (XbP wr.heap.size #[.int .i64 k5, .int .i64 k6, .int .i64 k7, .int .i64 k8, .string ⟨#[]⟩] (w8.setCell ⟨wr.heap.size, 3, none⟩ (.int .i64 k8))) := HX8.out.set 3 (.int .i64 k8)
        replace HO : Hid (hrsO (w.heap.size + 3) (w8.setCell ⟨wr.heap.size, 3, none⟩ (.int .i64 k8)) a1 cap1 xs) := ownsK_block HO.out (fun j e => Below.heap_setCell _ _ _ _ (by have := HOl.out j ((bkB_own _ _ _ _).1 e); show ¬ j = wr.heap.size; omega))
        clear HS8 HX8
        go_wp2_with fail
        clear x0 xf
        refine (text_calls (w.heap.size + 1) a cap l p8 b8 _ hl hcap (HT8.out.lt) HT8.out.rd HT8.out.by' HT8.out.neR).mono ?_
        rintro e w9 ⟨s9, p9, b9, rfl, hi, hr, hg⟩
        have H9 : Hid (HtIs (l.drop p8) b8 s9 (l.drop p9) b9) := hi.ht
        have HS9 : Hid (SX w a cap l #[.int .i64 k1, .slice a1 k cap1, .slice none 0 0, .string ⟨#[]⟩, .string ⟨#[]⟩, .int .i64 k2, .int .i64 k3] w9 p9 b9) := HT8.out.read hr hg hi.lt
        have HX9 : Hid (XbP wr.heap.size #[.int .i64 k5, .int .i64 k6, .int .i64 k7, .int .i64 k8, .string ⟨#[]⟩] w9) := (hg.block _ (Array.getElem?_eq_some_iff.1 HXb.out).1 (by have := HX2.out; show ¬ _ = _; omega)).trans HXb.out
        replace HO : Hid (hrsO (w.heap.size + 3) w9 a1 cap1 xs) := ownsK_block HO.out (fun q e => hg.block q (HO.out.lt q e).2 (by have := (HO.out.lt q e).1; show ¬ _ = _; omega))
        clear hi hr hg HT8 HXb
        have HC : Hid (HcIs (l.drop p) false ⟨k5, k6, k7, k8, s9⟩ (l.drop p9) b9) := hc_is H5.out H6.out H7.out H8.out H9.out (by have := H9.out.i; rw [List.length_drop] at this; unfold maxLen; omega)
        clear H5 H6 H7 H8 H9
        have HSz : Hid (SX w a cap l #[.int .i64 k1, .slice a1 k cap1, .slice none 0 0, .string ⟨#[]⟩, .string ⟨#[]⟩, .int .i64 k2, .int .i64 k3] (w9.setCell ⟨wr.heap.size, 4, none⟩ (.string s9)) p9 b9) := HS9.out.other (Gx.set _ _ _ _) HX2.out
        have HOz : Hid (hrsO (w.heap.size + 3) (w9.setCell ⟨wr.heap.size, 4, none⟩ (.string s9)) a1 cap1 xs) := ownsK_block HO.out (fun j e => Below.heap_setCell _ _ _ _ (by have := HOl.out j ((bkB_own _ _ _ _).1 e); show ¬ j = wr.heap.size; omega))
        have x0 : w9.cell? ⟨wr.heap.size, 0, none⟩ = some (.int .i64 k5) := HX9.out.c 0
        have x1 : w9.cell? ⟨wr.heap.size, 1, none⟩ = some (.int .i64 k6) := HX9.out.c 1
        have x2 : w9.cell? ⟨wr.heap.size, 2, none⟩ = some (.int .i64 k7) := HX9.out.c 2
        have x3 : w9.cell? ⟨wr.heap.size, 3, none⟩ = some (.int .i64 k8) := HX9.out.c 3
        have x4 : w9.cell? ⟨wr.heap.size, 4, none⟩ = some (.string ⟨#[]⟩) := HX9.out.c 4
        have xf := HX9.out.f
        have o1 : w9.cell? ⟨w.heap.size + 2, 1, none⟩ = some (.slice a1 k cap1) := HS9.out.oc 1
        have HSzz : Hid (w.heap.size + 2 < w9.heap.size) := HS9.out.sz
        clear HO HX9 HS9
        obtain ⟨i0, hi0, hy0, hy1, hy2⟩ := info_parts hrsI
        go_wp2_with (at_builtin; refine wpList_append_own_at _ rfl _ _ 29 rfl (w.heap.size + 3) 49 i0 _ 5 48 Tryd.underlying29 hi0 hy0 hy1 hy2 rfl (by decide) (.slice a1 k cap1) k (hrsS xs) rfl (by have h := HOz.out.alloc (.cells #[.int .i64 k5, .int .i64 k6, .int .i64 k7, .int .i64 k8, .string s9] 49); rw [HK.out] at h; exact h) ⟨w9.heap.size, 0, none⟩ 1 1 [.int .i64 k5, .int .i64 k6, .int .i64 k7, .int .i64 k8, .string s9] rfl rfl (fun j v h => by have := new_news (w9.setCell ⟨wr.heap.size, 4, none⟩ (.string s9)) #[.int .i64 k5, .int .i64 k6, .int .i64 k7, .int .i64 k8, .string s9] 49 j v h; simpa using this) (by simp [Value.oneCell']) (by unfold maxLen; omega) (by omega) (by have := HSzz.out; simp; omega) ?_; intro v' w10 hown hgrow _ hblk; obtain ⟨a7, cap7, rfl⟩ := ownsK_form hown; have HO7 : Hid (hrsO (w.heap.size + 3) w10 a7 cap7 (xs ++ [⟨k5, k6, k7, k8, s9⟩])) := (by show World.ownsRow _ _ _ _ _ _ _; rw [hrsS_add, List.length_append, HK.out]; exact hown); have HS7 : Hid (SX w a cap l #[.int .i64 k1, .slice a1 k cap1, .slice none 0 0, .string ⟨#[]⟩, .string ⟨#[]⟩, .int .i64 k2, .int .i64 k3] w10 p9 b9) := SX.grown (HSz.out.call (below_alloc _ _)) hgrow (fun j e => by have := (HOz.out.lt j (by rw [HK.out]; exact e)).1; omega); have o7 : w10.cell? ⟨w.heap.size + 2, 1, none⟩ = some (.slice a1 k cap1) := HS7.out.oc 1; have of7 := HS7.out.of; clear hown hgrow hblk HOz HSz x0 x1 x2 x3 x4 xf o1)
        have HSn : Hid (SX w a cap l #[.int .i64 k1, .slice a7 (k + 1) cap7, .slice none 0 0, .string ⟨#[]⟩, .string ⟨#[]⟩, .int .i64 k2, .int .i64 k3] (w10.setCell ⟨w.heap.size + 2, 1, none⟩ (.slice a7 (k + 1) cap7)) p9 b9) := HS7.out.set 1 (.slice a7 (k + 1) cap7)
        have HOn : Hid (hrsO (w.heap.size + 3) (w10.setCell ⟨w.heap.size + 2, 1, none⟩ (.slice a7 (k + 1) cap7)) a7 cap7 (xs ++ [⟨k5, k6, k7, k8, s9⟩])) := ownsK_block HO7.out (fun j e => Below.heap_setCell _ _ _ _ (by have := (HO7.out.lt j e).1; show ¬ j = w.heap.size + 2; omega))
        clear o7 of7 HS7 HO7
        go_roundw
        case rel => exact ⟨xs ++ [⟨k5, k6, k7, k8, s9⟩], a7, cap7, k + 1, m - 1, p9, b9, by go_num, (by show _ = _; simp [HK.out]), (by show _ = _; rw [HM.out]; simp; omega), HI.out.next (HcIs.he HC.out (by rw [List.length_drop]; omega)) (by rw [← HM.out]; exact h0), HOn, HSn⟩
        case measure => simp [intOf]; omega
    case false =>
      have HL : Hid (HlIs recL okR (l.drop p3) b3 xs (l.drop p) bd) := HI.out.done (by
        cases hb : bd
        · right
          intro h
          rw [← HM.out] at h
          exact Bool.noConfusion (HB0.out.2 ⟨h, hb⟩)
        · left; rfl)
      clear HB0 HI HM
      go_wp2_with fail
      refine (num_calls (w.heap.size + 1) a cap l p bd _ hl (HS.out.lt) HS.out.rd HS.out.by' HS.out.neR).mono ?_
      rintro e w10 ⟨k10, p10, b10, rfl, hi, hr, hg⟩
      have H10 : Hid (HnIs (l.drop p) bd k10 (l.drop p10) b10) := hi.hn
      have HS10 : Hid (SX w a cap l #[.int .i64 k1, .slice a1 k cap1, .slice none 0 0, .string ⟨#[]⟩, .string ⟨#[]⟩, .int .i64 k2, .int .i64 k3] w10 p10 b10) := HS.out.read hr hg hi.lt
      have HI : Hid (LsI txtL okT (l.drop p) bd k10 [] (l.drop p10) b10) := LsI.start H10.out
      have hni2 := H10.out.i
      unfold I64r at hni2
      have HOr : Hid (hrsO (w.heap.size + 3) w10 a1 cap1 xs) := ownsK_block HO.out (fun q e => hg.block q (HO.out.lt q e).2 (by have := (HO.out.lt q e).1; show ¬ _ = _; omega))
      have HV : Hid (hvsO (w.heap.size + 3) w10 none 0 []) := World.ownsRow_nil _ _ _ _
      have HDj : Hid (∀ q j, bkB a1 q → bkB none j → q < j) := fun _ _ _ h => by cases h
      clear hi hr hg H10 HS HO
      go_wp2_with fail
      go_loopw [7] (fun mv wr => ∃ (vs : List ByteArray) (a2 : Option Addr) (cap2 : Nat) (k' : Nat) (m : Int) (p' : Nat) (bd' : Bool), mv = .int .i64 m ∧ Hid (vs.length = k') ∧ Hid (m = k10 - (vs.length : Int)) ∧ Hid (LsI txtL okT (l.drop p) bd k10 vs (l.drop p') bd') ∧ Hid (hrsO (w.heap.size + 3) wr a1 cap1 xs) ∧ Hid (hvsO (w.heap.size + 3) wr a2 cap2 vs) ∧ Hid (∀ q j, bkB a1 q → bkB a2 j → q < j) ∧ Hid (SX w a cap l #[.int .i64 k1, .slice a1 k cap1, .slice a2 k' cap2, .string ⟨#[]⟩, .string ⟨#[]⟩, .int .i64 k2, .int .i64 k3] wr p' bd')) (fun mv _ => (intOf mv).toNat)
      case atStart => exact ⟨[], none, 0, 0, k10, p10, b10, rfl, rfl, by show _ = _; simp, HI, HOr, HV, HDj, HS10⟩
      case round =>
        clear HS10 HOr HI HV HDj
        obtain ⟨vs, a2, cap2, k', m', p', bd', rfl, HK2, HM2, HI, HO, HV, HDj, HS⟩ := hrel
        have c2 := HS.out.rd.c2
        have hm2 : m' ≤ 9223372036854775807 := by rw [HM2.out]; omega
        have hkr2 : k' ≤ 1048576 := by have := HI.out.d; rw [HK2.out, List.length_drop] at this; omega
        go_upto_region 19 with fail
        go_cut [69] (fun v wc => ∃ b0 : Bool, v = .bool b0 ∧ Hid (b0 = true ↔ (0 < m' ∧ bd' = false)) ∧ wr = wc)
        case first =>
          by_cases h0 : 0 < m'
          · cases bd'
            · go_wp2_with fail
              go_meet
              exact ⟨true, rfl, (by show _ ↔ _; constructor; (· intro _; exact ⟨by omega, by trivial⟩); (· intro _; trivial)), rfl⟩
            · go_wp2_with fail
              go_meet
              exact ⟨false, rfl, (by show _ ↔ _; constructor; (· intro h; cases h); (· intro h; cases h.2)), rfl⟩
          · go_wp2_with fail
            go_meet
            exact ⟨false, rfl, (by show _ ↔ _; constructor; (· intro h; cases h); (· intro h; have := h.1; omega)), rfl⟩
        case rest =>
        obtain ⟨b0, rfl, HB0, hwc⟩ := hcut
        subst hwc
        clear c2
        cases b0
        case true =>
          obtain ⟨h0, rfl⟩ := HB0.out.1 rfl
          clear HB0
          go_wp2_with fail
          refine (text_calls (w.heap.size + 1) a cap l p' false _ hl hcap (HS.out.lt) HS.out.rd HS.out.by' HS.out.neR).mono ?_
          rintro e w11 ⟨s11, p11, b11, rfl, hi, hr, hg⟩
          have H11 : Hid (HtIs (l.drop p') false s11 (l.drop p11) b11) := hi.ht
          have HS11 : Hid (SX w a cap l #[.int .i64 k1, .slice a1 k cap1, .slice a2 k' cap2, .string ⟨#[]⟩, .string ⟨#[]⟩, .int .i64 k2, .int .i64 k3] w11 p11 b11) := HS.out.read hr hg hi.lt
          replace HO : Hid (hrsO (w.heap.size + 3) w11 a1 cap1 xs) := ownsK_block HO.out (fun q e => hg.block q (HO.out.lt q e).2 (by have := (HO.out.lt q e).1; show ¬ _ = _; omega))
          replace HV : Hid (hvsO (w.heap.size + 3) w11 a2 cap2 vs) := ownsK_block HV.out (fun q e => hg.block q (HV.out.lt q e).2 (by have := (HV.out.lt q e).1; show ¬ _ = _; omega))
          have o1 : w11.cell? ⟨w.heap.size + 2, 2, none⟩ = some (.slice a2 k' cap2) := HS11.out.oc 2
          have HSzz : Hid (w.heap.size + 2 < w11.heap.size) := HS11.out.sz
          clear hi hr hg HS
          obtain ⟨i0, hi0, hy0, hy1, hy2⟩ := info_parts hvsI
          go_wp2_with (at_builtin; refine wpList_append_own_at _ rfl _ _ 23 rfl (w.heap.size + 3) 9 i0 _ 1 16 Tryd.underlying23 hi0 hy0 hy1 hy2 rfl (by decide) (.slice a2 k' cap2) k' (hvsS vs) rfl (by have h := HV.out.alloc (.cells #[.string s11] 9); rw [HK2.out] at h; exact h) ⟨w11.heap.size, 0, none⟩ 1 1 [.string s11] rfl rfl (new_news _ #[.string s11] _) (by simp [Value.oneCell']) (by unfold maxLen; omega) (by omega) (by have := HSzz.out; simp; omega) ?_; intro v' w20 hown hgrow _ hblk; obtain ⟨a7, cap7, rfl⟩ := ownsK_form hown; have HV7 : Hid (hvsO (w.heap.size + 3) w20 a7 cap7 (vs ++ [s11])) := (by show World.ownsRow _ _ _ _ _ _ _; rw [hvsS_add, List.length_append, HK2.out]; exact hown); have HS7 : Hid (SX w a cap l #[.int .i64 k1, .slice a1 k cap1, .slice a2 k' cap2, .string ⟨#[]⟩, .string ⟨#[]⟩, .int .i64 k2, .int .i64 k3] w20 p11 b11) := SX.grown (HS11.out.call (below_alloc _ _)) hgrow (fun j e => by have := (HV.out.lt j (by rw [HK2.out]; exact e)).1; omega); have HD7 : Hid (∀ q j, bkB a1 q → bkB a7 j → q < j) := (fun q j h1 h2 => by rcases hblk with e | e <;> rw [(bkB_own a7 _ _ j).2 h2] at e; (· exact HDj.out q j h1 ((bkB_own a2 _ _ j).1 e.symm)); (· have := (HO.out.lt q ((bkB_own _ _ _ _).2 h1)).2; have := Option.some.inj e; simp at this; omega)); have HO7 : Hid (hrsO (w.heap.size + 3) w20 a1 cap1 xs) := ownsK_block (ownsK_below HO.out (below_alloc _ _)) (fun q e => hgrow.block q (by have := (HO.out.lt q e).2; simp; omega) (fun e2 => by have h3 := (bkB_own a2 _ _ q).1 e2.symm; have h4 := HDj.out q q ((bkB_own _ _ _ _).1 e) h3; omega)); have o7 : w20.cell? ⟨w.heap.size + 2, 2, none⟩ = some (.slice a2 k' cap2) := HS7.out.oc 2; have of7 := HS7.out.of; clear hown hgrow hblk HV HO HS11 o1)
          have HSn : Hid (SX w a cap l #[.int .i64 k1, .slice a1 k cap1, .slice a7 (k' + 1) cap7, .string ⟨#[]⟩, .string ⟨#[]⟩, .int .i64 k2, .int .i64 k3] (w20.setCell ⟨w.heap.size + 2, 2, none⟩ (.slice a7 (k' + 1) cap7)) p11 b11) := HS7.out.set 2 (.slice a7 (k' + 1) cap7)
          have HVn : Hid (hvsO (w.heap.size + 3) (w20.setCell ⟨w.heap.size + 2, 2, none⟩ (.slice a7 (k' + 1) cap7)) a7 cap7 (vs ++ [s11])) := ownsK_block HV7.out (fun j e => Below.heap_setCell _ _ _ _ (by have := (HV7.out.lt j e).1; show ¬ j = w.heap.size + 2; omega))
          have HOn : Hid (hrsO (w.heap.size + 3) (w20.setCell ⟨w.heap.size + 2, 2, none⟩ (.slice a7 (k' + 1) cap7)) a1 cap1 xs) := ownsK_block HO7.out (fun j e => Below.heap_setCell _ _ _ _ (by have := (HO7.out.lt j e).1; show ¬ j = w.heap.size + 2; omega))
          clear o7 of7 HS7 HO7 HV7
          go_roundw
          case rel => exact ⟨vs ++ [s11], a7, cap7, k' + 1, m' - 1, p11, b11, by go_num, (by show _ = _; simp [HK2.out]), (by show _ = _; rw [HM2.out]; simp; omega), HI.out.next (HtIs.he H11.out (by rw [List.length_drop]; omega)) (by rw [← HM2.out]; exact h0), HOn, HVn, HD7, HSn⟩
          case measure => simp [intOf]; omega
        case false =>
          have HL2 : Hid (HlIs txtL okT (l.drop p) bd vs (l.drop p') bd') := HI.out.done (by
            cases hb : bd'
            · right
              intro h
              rw [← HM2.out] at h
              exact Bool.noConfusion (HB0.out.2 ⟨h, hb⟩)
            · left; rfl)
          clear HB0 HI HM2
          have hk1 := HK.out
          have hk2 := HK2.out
          subst hk1 hk2
          clear HK HK2
          go_wp2_with fail
          refine (text_calls (w.heap.size + 1) a cap l p' bd' _ hl hcap (HS.out.lt) HS.out.rd HS.out.by' HS.out.neR).mono ?_
          rintro e w12 ⟨s12, p12, b12, rfl, hi, hr, hg⟩
          have H12 : Hid (HtIs (l.drop p') bd' s12 (l.drop p12) b12) := hi.ht
          have HS12 : Hid (SX w a cap l #[.int .i64 k1, .slice a1 xs.length cap1, .slice a2 vs.length cap2, .string ⟨#[]⟩, .string ⟨#[]⟩, .int .i64 k2, .int .i64 k3] w12 p12 b12) := HS.out.read hr hg hi.lt
          replace HO : Hid (hrsO (w.heap.size + 3) w12 a1 cap1 xs) := ownsK_block HO.out (fun q e => hg.block q (HO.out.lt q e).2 (by have := (HO.out.lt q e).1; show ¬ _ = _; omega))
          replace HV : Hid (hvsO (w.heap.size + 3) w12 a2 cap2 vs) := ownsK_block HV.out (fun q e => hg.block q (HV.out.lt q e).2 (by have := (HV.out.lt q e).1; show ¬ _ = _; omega))
          replace HO : Hid (hrsO (w.heap.size + 3) (w12.setCell ⟨w.heap.size + 2, 3, none⟩ (.string s12)) a1 cap1 xs) := ownsK_block HO.out (fun j e => Below.heap_setCell _ _ _ _ (by have := (HO.out.lt j e).1; show ¬ j = w.heap.size + 2; omega))
          replace HV : Hid (hvsO (w.heap.size + 3) (w12.setCell ⟨w.heap.size + 2, 3, none⟩ (.string s12)) a2 cap2 vs) := ownsK_block HV.out (fun j e => Below.heap_setCell _ _ _ _ (by have := (HV.out.lt j e).1; show ¬ j = w.heap.size + 2; omega))
          have o0 : w12.cell? ⟨w.heap.size + 2, 3, none⟩ = some (.string ⟨#[]⟩) := HS12.out.oc 3
          have of := HS12.out.of
          have HT12 : Hid (SX w a cap l #[.int .i64 k1, .slice a1 xs.length cap1, .slice a2 vs.length cap2, .string s12, .string ⟨#[]⟩, .int .i64 k2, .int .i64 k3] (w12.setCell ⟨w.heap.size + 2, 3, none⟩ (.string s12)) p12 b12) := HS12.out.set 3 (.string s12)
          clear hi hr hg HS12
          go_wp2_with fail
          clear o0 of
          refine (text_calls (w.heap.size + 1) a cap l p12 b12 _ hl hcap (HT12.out.lt) HT12.out.rd HT12.out.by' HT12.out.neR).mono ?_
          rintro e w13 ⟨s13, p13, b13, rfl, hi, hr, hg⟩
          have H13 : Hid (HtIs (l.drop p12) b12 s13 (l.drop p13) b13) := hi.ht
          have HS13 : Hid (SX w a cap l #[.int .i64 k1, .slice a1 xs.length cap1, .slice a2 vs.length cap2, .string s12, .string ⟨#[]⟩, .int .i64 k2, .int .i64 k3] w13 p13 b13) := HT12.out.read hr hg hi.lt
          replace HO : Hid (hrsO (w.heap.size + 3) w13 a1 cap1 xs) := ownsK_block HO.out (fun q e => hg.block q (HO.out.lt q e).2 (by have := (HO.out.lt q e).1; show ¬ _ = _; omega))
          replace HV : Hid (hvsO (w.heap.size + 3) w13 a2 cap2 vs) := ownsK_block HV.out (fun q e => hg.block q (HV.out.lt q e).2 (by have := (HV.out.lt q e).1; show ¬ _ = _; omega))
          replace HO : Hid (hrsO (w.heap.size + 3) (w13.setCell ⟨w.heap.size + 2, 4, none⟩ (.string s13)) a1 cap1 xs) := ownsK_block HO.out (fun j e => Below.heap_setCell _ _ _ _ (by have := (HO.out.lt j e).1; show ¬ j = w.heap.size + 2; omega))
          replace HV : Hid (hvsO (w.heap.size + 3) (w13.setCell ⟨w.heap.size + 2, 4, none⟩ (.string s13)) a2 cap2 vs) := ownsK_block HV.out (fun j e => Below.heap_setCell _ _ _ _ (by have := (HV.out.lt j e).1; show ¬ j = w.heap.size + 2; omega))
          have o0 : w13.cell? ⟨w.heap.size + 2, 4, none⟩ = some (.string ⟨#[]⟩) := HS13.out.oc 4
          have of := HS13.out.of
          have HT13 : Hid (SX w a cap l #[.int .i64 k1, .slice a1 xs.length cap1, .slice a2 vs.length cap2, .string s12, .string s13, .int .i64 k2, .int .i64 k3] (w13.setCell ⟨w.heap.size + 2, 4, none⟩ (.string s13)) p13 b13) := HS13.out.set 4 (.string s13)
          have HP : Hid (HpIs l (⟨k1, k2, k3, xs, vs, s12, s13⟩ : RpL)) := hp_is hl (by simpa using H1.out) H2.out H3.out HL.out HL2.out H12.out H13.out
          have HFl : Hid (∀ p0 : RpL, p0.ok → p0.tell = l → b13 = false) := hp_flag (by simpa using H1.out) H2.out H3.out HL.out HL2.out H12.out H13.out
          have HH : Hid (HearIs l (if b13 = false ∧ tellL (⟨k1, k2, k3, xs, vs, s12, s13⟩ : RpL).d = l then (⟨k1, k2, k3, xs, vs, s12, s13⟩ : RpL) else RpL.zero)) := hear_spec HP.out HFl.out (by omega)
          clear hi hr hg HS13 HT12 H1 H2 H3 H12 H13 HL HL2 HFl
          go_upto_region 25 with fail
          clear o0 of
          obtain ⟨wz, hwz⟩ : ∃ wz, w13.setCell ⟨w.heap.size + 2, 4, none⟩ (.string s13) = wz := ⟨_, rfl⟩
          rw [hwz] at HT13 HO HV
          rw [hwz]
          clear hwz
          go_cut [97] (fun v wc => ∃ b1 : Bool, v = .bool b1 ∧ Hid (b1 = true ↔ ¬ (b13 = false ∧ tellL (⟨k1, k2, k3, xs, vs, s12, s13⟩ : RpL).d = l)) ∧ Hid (Below wz.heap.size wz wc))
          case first =>
            cases hb13 : b13
            · rw [hb13] at HT13
              have HSs : Hid (∀ w', Below wz.heap.size wz w' → w'.cell? ⟨w.heap.size + 1, 2, none⟩ = some (.bool false) ∧ w'.cell? ⟨w.heap.size + 2, 0, none⟩ = some (.int .i64 k1) ∧ w'.cell? ⟨w.heap.size + 2, 1, none⟩ = some (.slice a1 xs.length cap1) ∧ w'.cell? ⟨w.heap.size + 2, 2, none⟩ = some (.slice a2 vs.length cap2) ∧ w'.cell? ⟨w.heap.size + 2, 3, none⟩ = some (.string s12) ∧ w'.cell? ⟨w.heap.size + 2, 4, none⟩ = some (.string s13) ∧ w'.cell? ⟨w.heap.size + 2, 5, none⟩ = some (.int .i64 k2) ∧ w'.cell? ⟨w.heap.size + 2, 6, none⟩ = some (.int .i64 k3) ∧ (convert 27 9 (.slice a l.length cap)).run Tryd.prog w' = .ok (.string ⟨l.toArray⟩) w') := fun w' hw => by
                have h1 := HT13.out.call hw
                exact ⟨h1.rd.c2, h1.oc 0, h1.oc 1, h1.oc 2, h1.oc 3, h1.oc 4, h1.oc 5, h1.oc 6, by
                  have h2 : RsAt w' a cap l := HRs.out.up h1.b
                  exact h2.str⟩
              have HR : Hid (RpAt 0 wz (⟨k1, k2, k3, xs, vs, s12, s13⟩ : RpL).d ⟨a1, cap1, a2, cap2⟩) := RpAt.less (RpO.at_ (N := w.heap.size + 3) (x := ⟨a1, cap1, a2, cap2⟩) ⟨HO.out, HV.out, HDj.out⟩) (Nat.zero_le _)
              obtain ⟨t2, q0, q1, q2, q3, q4, q5, q6, hcvB⟩ := HSs.out wz.drew (Below.refl _ _).drew
              go_region_with (first | (go_at_call 20; refine (l5tell_calls 0 (⟨k1, k2, k3, xs, vs, s12, s13⟩ : RpL).d ⟨a1, cap1, a2, cap2⟩ _ HP.out.k.wf HP.out.k.sm (HR.out.below (Below.refl _ _).drew)).mono ?_; rintro e w15 ⟨⟨a5, cap5, L5, rfl, hL5, ho5⟩, hb5⟩; have HL5 : Hid (L5 = tellL (⟨k1, k2, k3, xs, vs, s12, s13⟩ : RpL).d) := hL5; have HB15 : Hid (Below wz.heap.size wz w15) := (Below.refl _ _).drew.trans hb5; have hcvA : (convert 27 9 (.slice a5 L5.length cap5)).run Tryd.prog w15 = .ok (.string ⟨L5.toArray⟩) w15 := (RsAt.own ho5).str; have hcvC := (HSs.out w15 HB15.out).2.2.2.2.2.2.2.2; clear hL5 ho5 hb5 t2 q0 q1 q2 q3 q4 q5 q6 hcvB))
              all_goals go_wp2_with fail
              all_goals go_meet
              all_goals exact ⟨!(L5 == l), rfl, (by
                show _ ↔ _
                rw [HL5.out, hb13]
                simp), HB15⟩
            · rw [hb13] at HT13
              have c2 := HT13.out.rd.c2
              go_quiet ((fail))
              go_wp2_with fail
              go_meet
              exact ⟨true, rfl, (by show _ ↔ _; constructor; (· intro _ h; have h1 := h.1; simp [hb13] at h1); (· intro _; trivial)), below_drewN (Below.refl _ _) _⟩
          case rest =>
            obtain ⟨b1, rfl, HB1, HBc⟩ := hcut
            have HSc := HT13.out.call HBc.out
            replace HO := ownsK_below HO.out HBc.out
            replace HV := ownsK_below HV.out HBc.out
            have HO : Hid (hrsO (w.heap.size + 3) wc a1 cap1 xs) := HO
            have HV : Hid (hvsO (w.heap.size + 3) wc a2 cap2 vs) := HV
            have HSc : Hid (SX w a cap l #[.int .i64 k1, .slice a1 xs.length cap1, .slice a2 vs.length cap2, .string s12, .string s13, .int .i64 k2, .int .i64 k3] wc p13 b13) := HSc
            clear HT13 HBc
            have z0 : wc.cell? ⟨w.heap.size, 0, none⟩ = some (.int .i64 0) := HSc.out.rc 0
            have z1 : wc.cell? ⟨w.heap.size, 1, none⟩ = some (.slice none 0 0) := HSc.out.rc 1
            have z2 : wc.cell? ⟨w.heap.size, 2, none⟩ = some (.slice none 0 0) := HSc.out.rc 2
            have z3 : wc.cell? ⟨w.heap.size, 3, none⟩ = some (.string ⟨#[]⟩) := HSc.out.rc 3
            have z4 : wc.cell? ⟨w.heap.size, 4, none⟩ = some (.string ⟨#[]⟩) := HSc.out.rc 4
            have z5 : wc.cell? ⟨w.heap.size, 5, none⟩ = some (.int .i64 0) := HSc.out.rc 5
            have z6 : wc.cell? ⟨w.heap.size, 6, none⟩ = some (.int .i64 0) := HSc.out.rc 6
            have zf := HSc.out.rf
            have q0 : wc.cell? ⟨w.heap.size + 2, 0, none⟩ = some (.int .i64 k1) := HSc.out.oc 0
            have q1 : wc.cell? ⟨w.heap.size + 2, 1, none⟩ = some (.slice a1 xs.length cap1) := HSc.out.oc 1
            have q2 : wc.cell? ⟨w.heap.size + 2, 2, none⟩ = some (.slice a2 vs.length cap2) := HSc.out.oc 2
            have q3 : wc.cell? ⟨w.heap.size + 2, 3, none⟩ = some (.string s12) := HSc.out.oc 3
            have q4 : wc.cell? ⟨w.heap.size + 2, 4, none⟩ = some (.string s13) := HSc.out.oc 4
            have q5 : wc.cell? ⟨w.heap.size + 2, 5, none⟩ = some (.int .i64 k2) := HSc.out.oc 5
            have q6 : wc.cell? ⟨w.heap.size + 2, 6, none⟩ = some (.int .i64 k3) := HSc.out.oc 6
            cases b1
            · have hc : b13 = false ∧ tellL (⟨k1, k2, k3, xs, vs, s12, s13⟩ : RpL).d = l := by
                apply Classical.byContradiction
                intro h
                exact Bool.noConfusion (HB1.out.2 h)
              replace HH : Hid (HearIs l (⟨k1, k2, k3, xs, vs, s12, s13⟩ : RpL)) := by
                have h := HH.out
                rw [if_pos hc] at h
                exact h
              clear hc HB1
              go_wp2_with fail
              clear q0 q1 q2 q3 q4 q5 q6
              obtain ⟨we, hwe⟩ : ∃ we, (((((((wc.setCell ⟨w.heap.size, 0, none⟩ (.int .i64 k1)).setCell ⟨w.heap.size, 1, none⟩ (.slice a1 xs.length cap1)).setCell ⟨w.heap.size, 2, none⟩ (.slice a2 vs.length cap2)).setCell ⟨w.heap.size, 3, none⟩ (.string s12)).setCell ⟨w.heap.size, 4, none⟩ (.string s13)).setCell ⟨w.heap.size, 5, none⟩ (.int .i64 k2)).setCell ⟨w.heap.size, 6, none⟩ (.int .i64 k3)) = we := ⟨_, rfl⟩
              have HBe : Hid (Below w.heap.size w we) := by rw [← hwe]; exact ((((((HSc.out.b.setCell (Nat.le_refl _) _).setCell (Nat.le_refl _) _).setCell (Nat.le_refl _) _).setCell (Nat.le_refl _) _).setCell (Nat.le_refl _) _).setCell (Nat.le_refl _) _).setCell (Nat.le_refl _) _
              have HGe : Hid (Gx (fun k => k = w.heap.size) wc we) := by rw [← hwe]; exact ((((((Gx.set _ _ _ _).sets _ _).sets _ _).sets _ _).sets _ _).sets _ _).sets _ _
              have ec : ∀ o, we.cell? ⟨w.heap.size, o, none⟩ = (#[.int .i64 k1, .slice a1 xs.length cap1, .slice a2 vs.length cap2, .string s12, .string s13, .int .i64 k2, .int .i64 k3] : Array Value)[o]? := by
                rw [← hwe]
                exact wrote7 HSc.out.rb _ _ _ _ _ _ _
              rw [hwe]
              have e0 := ec 0
              have e1 := ec 1
              have e2 := ec 2
              have e3 := ec 3
              have e4 := ec 4
              have e5 := ec 5
              have e6 := ec 6
              clear z0 z1 z2 z3 z4 z5 z6 hwe ec
              refine bodyPost_ret (v := rpV (RpL.d (⟨k1, k2, k3, xs, vs, s12, s13⟩ : RpL)) ⟨a1, cap1, a2, cap2⟩) (by simp [results, Tryd.results14, go_sem, e0, e1, e2, e3, e4, e5, e6]; exact ⟨rfl, rfl, rfl, rfl, rfl, rfl, rfl⟩) rfl ?_
              unfold hearP
              exact ⟨(⟨k1, k2, k3, xs, vs, s12, s13⟩ : RpL), ⟨a1, cap1, a2, cap2⟩, rfl, HH.out, HP.out.k, ⟨ownsK_base' (ownsK_block HO.out (fun k e => HGe.out.block k (HO.out.lt k e).2 (by have := (HO.out.lt k e).1; show ¬ _ = _; omega))) (by omega), ownsK_base' (ownsK_block HV.out (fun k e => HGe.out.block k (HV.out.lt k e).2 (by have := (HV.out.lt k e).1; show ¬ _ = _; omega))) (by omega), HDj.out⟩, HBe.out⟩
            · have hc : ¬ (b13 = false ∧ tellL (⟨k1, k2, k3, xs, vs, s12, s13⟩ : RpL).d = l) := HB1.out.1 rfl
              replace HH : Hid (HearIs l RpL.zero) := by
                have h := HH.out
                rw [if_neg hc] at h
                exact h
              clear hc HB1
              go_wp2_with fail
              clear q0 q1 q2 q3 q4 q5 q6
              obtain ⟨we, hwe⟩ : ∃ we, (((((((wc.setCell ⟨w.heap.size, 0, none⟩ (.int .i64 0)).setCell ⟨w.heap.size, 1, none⟩ (.slice none 0 0)).setCell ⟨w.heap.size, 2, none⟩ (.slice none 0 0)).setCell ⟨w.heap.size, 3, none⟩ (.string ⟨#[]⟩)).setCell ⟨w.heap.size, 4, none⟩ (.string ⟨#[]⟩)).setCell ⟨w.heap.size, 5, none⟩ (.int .i64 0)).setCell ⟨w.heap.size, 6, none⟩ (.int .i64 0)) = we := ⟨_, rfl⟩
              have HBe : Hid (Below w.heap.size w we) := by rw [← hwe]; exact ((((((HSc.out.b.setCell (Nat.le_refl _) _).setCell (Nat.le_refl _) _).setCell (Nat.le_refl _) _).setCell (Nat.le_refl _) _).setCell (Nat.le_refl _) _).setCell (Nat.le_refl _) _).setCell (Nat.le_refl _) _
              have HGe : Hid (Gx (fun k => k = w.heap.size) wc we) := by rw [← hwe]; exact ((((((Gx.set _ _ _ _).sets _ _).sets _ _).sets _ _).sets _ _).sets _ _).sets _ _
              have ec : ∀ o, we.cell? ⟨w.heap.size, o, none⟩ = (#[.int .i64 0, .slice none 0 0, .slice none 0 0, .string ⟨#[]⟩, .string ⟨#[]⟩, .int .i64 0, .int .i64 0] : Array Value)[o]? := by
                rw [← hwe]
                exact wrote7 HSc.out.rb _ _ _ _ _ _ _
              rw [hwe]
              have e0 := ec 0
              have e1 := ec 1
              have e2 := ec 2
              have e3 := ec 3
              have e4 := ec 4
              have e5 := ec 5
              have e6 := ec 6
              clear z0 z1 z2 z3 z4 z5 z6 hwe ec
              refine bodyPost_ret (v := rpV (RpL.d RpL.zero) ⟨none, 0, none, 0⟩) (by simp [results, Tryd.results14, go_sem, e0, e1, e2, e3, e4, e5, e6]; exact ⟨rfl, rfl, rfl, rfl, rfl, rfl, rfl⟩) rfl ?_
              unfold hearP
              exact ⟨RpL.zero, ⟨none, 0, none, 0⟩, rfl, HH.out, RpL.zero_ok, ⟨World.ownsRow_nil _ _ _ _, World.ownsRow_nil _ _ _ _, fun _ _ h => by cases h⟩, HBe.out⟩
end Go.Proofs.YtiidepafifodjaaDoor
