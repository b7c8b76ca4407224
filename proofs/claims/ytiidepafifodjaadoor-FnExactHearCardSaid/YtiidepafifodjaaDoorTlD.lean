import Derived.Test.YtiidepafifodjaaDoorTlC
/-! The specification's l5tell, Tell. -/
namespace Go.Proofs.YtiidepafifodjaaDoor
open Go.RowKit
attribute [local go_sem] run_store_float
attribute [local go_sem ↓] Go.wp_at_zero Go.wp_at_succ

/-- what Tell answers -/
def toldL (d : RpD) : List UInt8 := if 1000000 < (tellL d).length then [] else tellL d
theorem ownsK_base' {w : World} {N N' K : Nat} {t : TypeId} {v : Value} {n : Nat} {xs : List Value} (h : w.ownsRow N t K v n xs) (hb : N' ≤ N) : w.ownsRow N' t K v n xs := by
  refine ⟨h.1, ?_⟩
  rcases h.2 with hn | ⟨g, cap, cur, hv, hbg, rest⟩
  · exact .inl hn
  · exact .inr ⟨g, cap, cur, hv, Nat.le_trans hb hbg, rest⟩
set_option maxRecDepth 100000 in
set_option maxHeartbeats 8000000 in
theorem l5tell_calls (L0 : Nat) (d : RpD) (x : RpX) (w : World) (hd : d.wf) (hs : d.sm) (hT : RpAt L0 w d x) :
    Calls Tryd.prog 20 #[rpV d x] w fun e w' => (∃ a' cap' L', e = .returned (.slice a' (List.length L') cap') ∧ L' = tellL d ∧ OwB w.heap.size w' a' cap' L') ∧ Below w.heap.size w w' := by
  have HTa : Hid (RpAt L0 w d x) := hT
  have HW : Hid d.wf := hd
  have HS : Hid d.sm := hs
  have i1 := hd.code
  have i2 := hd.ti
  have i3 := hd.ma
  have hn := hs.n
  have hm := hs.m
  have i4 : I64r (d.n : Int) := by unfold I64r; omega
  have i5 : I64r (d.m : Int) := by unfold I64r; omega
  clear hT hd hs
  go_enter Tryd.func20, Tryd.ntmps20
  go_upto_region 2 with fail
  obtain ⟨w1, hw1⟩ : ∃ w1, w.alloc (.cells (rpC d x) 31) = w1 := ⟨_, rfl⟩
  obtain ⟨B, hB⟩ : ∃ B, w.heap.size = B := ⟨_, rfl⟩
  obtain ⟨N, hN⟩ : ∃ N, w1.heap.size = N := ⟨_, rfl⟩
  have hBN : N = B + 1 := by rw [← hN, ← hw1, ← hB]; simp
  have HB1 : Hid (Below w.heap.size w w1) := by rw [← hw1]; exact below_alloc _ _
  have HA1 : Hid (RpAt L0 w1 d x) := HTa.out.below HB1.out
  have HT : Hid (TW N w1 B (rpC d x) 0 w1 none 0 []) := by
    refine ⟨World.ownsRow_nil _ _ _ _, Below.refl _ _, ?_, fun h => h, by omega, Nat.le_refl _⟩
    rw [← hw1, ← hB]; exact Has.new _ _ _
  have HQ : Hid (([] : List UInt8) = []) := rfl
  have HBw : Hid (B = w.heap.size) := hB.symm
  have HNw : Hid (N = w1.heap.size) := hN.symm
  rw [hw1, hB]
  clear hw1 hB hN HTa
  have c0 : w1.cell? ⟨B, 0, none⟩ = some (.int .i64 d.code) := HT.out.h.cell 0 rfl
  have c1 : w1.cell? ⟨B, 1, none⟩ = some (.slice x.ra d.n x.rc) := HT.out.h.cell 1 rfl
  have c2 : w1.cell? ⟨B, 2, none⟩ = some (.slice x.va d.m x.vc) := HT.out.h.cell 2 rfl
  have c3 : w1.cell? ⟨B, 3, none⟩ = some (.string d.er) := HT.out.h.cell 3 rfl
  have c4 : w1.cell? ⟨B, 4, none⟩ = some (.string d.tr) := HT.out.h.cell 4 rfl
  have c5 : w1.cell? ⟨B, 5, none⟩ = some (.int .i64 d.ti) := HT.out.h.cell 5 rfl
  have c6 : w1.cell? ⟨B, 6, none⟩ = some (.int .i64 d.ma) := HT.out.h.cell 6 rfl
  go_wp2_with (go_at_call 36; refine (l5num_calls N _ _ _ _ _ HT.out.sz (Nat.le_trans HT.out.len (by omega)) (by assumption) HT.out.own).mono ?_; rintro e w2 ⟨⟨a2, cap2, L2, rfl, hL2, ho2, ha2⟩, hg2⟩; replace HT : Hid (TW N w1 B (rpC d x) _ _ _ _ _) := HT.out.next hg2 ho2 ha2 _ (by rw [hL2]; exact num_len _ HT.out.len); replace HQ : Hid (L2 = _) := hL2.trans (congrArg (· ++ _) HQ.out); clear hL2 ho2 ha2 hg2; clear c0 c1 c2 c3 c4 c5 c6; have c0 : w2.cell? ⟨B, 0, none⟩ = some (.int .i64 d.code) := HT.out.h.cell 0 rfl; have c1 : w2.cell? ⟨B, 1, none⟩ = some (.slice x.ra d.n x.rc) := HT.out.h.cell 1 rfl; have c2 : w2.cell? ⟨B, 2, none⟩ = some (.slice x.va d.m x.vc) := HT.out.h.cell 2 rfl; have c3 : w2.cell? ⟨B, 3, none⟩ = some (.string d.er) := HT.out.h.cell 3 rfl; have c4 : w2.cell? ⟨B, 4, none⟩ = some (.string d.tr) := HT.out.h.cell 4 rfl; have c5 : w2.cell? ⟨B, 5, none⟩ = some (.int .i64 d.ti) := HT.out.h.cell 5 rfl; have c6 : w2.cell? ⟨B, 6, none⟩ = some (.int .i64 d.ma) := HT.out.h.cell 6 rfl; skip)
  clear c0 c1 c2 c3 c4 c5 c6
  have HL1 : Hid (L2 = ((numL d.code ++ numL d.ti) ++ numL d.ma) ++ numL d.n) := by have h := HQ.out; show _ = _; rw [h]; simp
  clear HQ
  go_loopw [3, 28] (fun o i wr => ∃ (k : Nat) (a1 : Option Addr) (cap1 : Nat) (Lk : List UInt8), k ≤ d.n ∧ i = .int .i64 k ∧ o = .slice a1 (List.length Lk) cap1 ∧ Hid (Lk = (((numL d.code ++ numL d.ti) ++ numL d.ma) ++ numL d.n) ++ recsL d.rc k) ∧ Hid (TW N w1 B (rpC d x) (88 + k * 1048686) wr a1 cap1 Lk)) (fun _ i _ => d.n - (intOf i).toNat)
  case atStart => exact ⟨0, a2, cap2, L2, Nat.zero_le _, rfl, rfl, (by show _ = _; rw [HL1.out]; simp [recsL]), (by show TW _ _ _ _ _ _ _ _ _; have h := HT.out; exact ⟨h.own, h.b, h.h, h.n, h.sz, by have := h.len; omega⟩)⟩
  case round =>
    clear HT HL1
    obtain ⟨k, a1, cap1, Lk, hk, rfl, rfl, HQ, HT⟩ := hrel
    by_cases hkn : k < d.n
    · obtain ⟨b, off, hra, _, hb, d0, d1, d2, d3, d4⟩ := cellsR (RowN.below HA1.out.1 (by rw [← HNw.out]; exact HT.out.b)) hkn
      rw [hra]
      have j1 := (HW.out.rc k hkn).k
      have j2 := (HW.out.rc k hkn).t
      have j3 := (HW.out.rc k hkn).f
      have j4 := (HW.out.rc k hkn).l
      have hsk := HS.out.rc k hkn
      go_upto_region 9 with fail
      obtain ⟨wb, hwb⟩ : ∃ wb, wb = wr.alloc (.cells (rcC (d.rc k)) 49) := ⟨_, rfl⟩
      obtain ⟨R, hR⟩ : ∃ R, wr.heap.size = R := ⟨_, rfl⟩
      have HX : Hid (TX R (rcC (d.rc k)) wb a1) := by rw [hwb, ← hR]; exact ⟨Has.new _ _ _, fun e => by have := (bkB_lt HT.out.own e).2; omega⟩
      replace HT : Hid (TW N w1 B (rpC d x) (88 + k * 1048686) wb a1 cap1 Lk) := by rw [hwb]; exact HT.out.next (Gx.below _ (below_alloc _ _)) (HT.out.own.alloc _) (fun _ _ e => e) _ HT.out.len
      rw [← hwb, hR]
      clear hwb hR d0 d1 d2 d3 d4
      have r0 : wb.cell? ⟨R, 0, none⟩ = some (.int .i64 (d.rc k).k) := HX.out.h.cell 0 rfl
      have r1 : wb.cell? ⟨R, 1, none⟩ = some (.int .i64 (d.rc k).t) := HX.out.h.cell 1 rfl
      have r2 : wb.cell? ⟨R, 2, none⟩ = some (.int .i64 (d.rc k).f) := HX.out.h.cell 2 rfl
      have r3 : wb.cell? ⟨R, 3, none⟩ = some (.int .i64 (d.rc k).l) := HX.out.h.cell 3 rfl
      have r4 : wb.cell? ⟨R, 4, none⟩ = some (.string (d.rc k).s) := HX.out.h.cell 4 rfl
      go_wp2_with (first | (go_at_call 36; refine (l5num_calls N _ _ _ _ _ HT.out.sz (Nat.le_trans HT.out.len (by omega)) (by assumption) HT.out.own).mono ?_; rintro e w2 ⟨⟨a2, cap2, L2, rfl, hL2, ho2, ha2⟩, hg2⟩; replace HX : Hid (TX R (rcC (d.rc k)) _ _) := HX.out.next hg2 ha2; replace HT : Hid (TW N w1 B (rpC d x) _ _ _ _ _) := HT.out.next hg2 ho2 ha2 _ (by rw [hL2]; exact num_len _ HT.out.len); replace HQ : Hid (L2 = _) := hL2.trans (congrArg (· ++ _) HQ.out); clear hL2 ho2 ha2 hg2; clear r0 r1 r2 r3 r4; have r0 : w2.cell? ⟨R, 0, none⟩ = some (.int .i64 (d.rc k).k) := HX.out.h.cell 0 rfl; have r1 : w2.cell? ⟨R, 1, none⟩ = some (.int .i64 (d.rc k).t) := HX.out.h.cell 1 rfl; have r2 : w2.cell? ⟨R, 2, none⟩ = some (.int .i64 (d.rc k).f) := HX.out.h.cell 2 rfl; have r3 : w2.cell? ⟨R, 3, none⟩ = some (.int .i64 (d.rc k).l) := HX.out.h.cell 3 rfl; have r4 : w2.cell? ⟨R, 4, none⟩ = some (.string (d.rc k).s) := HX.out.h.cell 4 rfl; skip) | (go_at_call 37; refine (l5text_calls N _ _ _ _ _ HT.out.sz (Nat.le_trans HT.out.len (by omega)) hsk HT.out.own).mono ?_; rintro e w2 ⟨⟨a2, cap2, L2, rfl, hL2, ho2, ha2⟩, hg2⟩; replace HT : Hid (TW N w1 B (rpC d x) _ _ _ _ _) := HT.out.next hg2 ho2 ha2 _ (by rw [hL2]; exact txt_len _ hsk HT.out.len); replace HQ : Hid (L2 = _) := hL2.trans (congrArg (· ++ _) HQ.out); clear hL2 ho2 ha2 hg2; skip))
      go_roundw
      case rel => exact ⟨k + 1, a2, cap2, L2, by omega, by go_num, rfl, (by have h := HQ.out; show _ = _; rw [h]; simp [recsL, recL, List.append_assoc]), (by show TW _ _ _ _ _ _ _ _ _; have h := HT.out; exact ⟨h.own, h.b, h.h, h.n, h.sz, by have := h.len; omega⟩)⟩
      case measure => simp [intOf]; omega
    · obtain rfl : k = d.n := by omega
      have c0 : wr.cell? ⟨B, 0, none⟩ = some (.int .i64 d.code) := HT.out.h.cell 0 rfl
      have c1 : wr.cell? ⟨B, 1, none⟩ = some (.slice x.ra d.n x.rc) := HT.out.h.cell 1 rfl
      have c2 : wr.cell? ⟨B, 2, none⟩ = some (.slice x.va d.m x.vc) := HT.out.h.cell 2 rfl
      have c3 : wr.cell? ⟨B, 3, none⟩ = some (.string d.er) := HT.out.h.cell 3 rfl
      have c4 : wr.cell? ⟨B, 4, none⟩ = some (.string d.tr) := HT.out.h.cell 4 rfl
      have c5 : wr.cell? ⟨B, 5, none⟩ = some (.int .i64 d.ti) := HT.out.h.cell 5 rfl
      have c6 : wr.cell? ⟨B, 6, none⟩ = some (.int .i64 d.ma) := HT.out.h.cell 6 rfl
      go_wp2_with (go_at_call 36; refine (l5num_calls N _ _ _ _ _ HT.out.sz (Nat.le_trans HT.out.len (by omega)) (by assumption) HT.out.own).mono ?_; rintro e w2 ⟨⟨a2, cap2, L2, rfl, hL2, ho2, ha2⟩, hg2⟩; replace HT : Hid (TW N w1 B (rpC d x) _ _ _ _ _) := HT.out.next hg2 ho2 ha2 _ (by rw [hL2]; exact num_len _ HT.out.len); replace HQ : Hid (L2 = _) := hL2.trans (congrArg (· ++ _) HQ.out); clear hL2 ho2 ha2 hg2; clear c0 c1 c2 c3 c4 c5 c6; have c0 : w2.cell? ⟨B, 0, none⟩ = some (.int .i64 d.code) := HT.out.h.cell 0 rfl; have c1 : w2.cell? ⟨B, 1, none⟩ = some (.slice x.ra d.n x.rc) := HT.out.h.cell 1 rfl; have c2 : w2.cell? ⟨B, 2, none⟩ = some (.slice x.va d.m x.vc) := HT.out.h.cell 2 rfl; have c3 : w2.cell? ⟨B, 3, none⟩ = some (.string d.er) := HT.out.h.cell 3 rfl; have c4 : w2.cell? ⟨B, 4, none⟩ = some (.string d.tr) := HT.out.h.cell 4 rfl; have c5 : w2.cell? ⟨B, 5, none⟩ = some (.int .i64 d.ti) := HT.out.h.cell 5 rfl; have c6 : w2.cell? ⟨B, 6, none⟩ = some (.int .i64 d.ma) := HT.out.h.cell 6 rfl; skip)
      clear c0 c1 c2 c3 c4 c5 c6
      have HL3 : Hid (L2 = ((((numL d.code ++ numL d.ti) ++ numL d.ma) ++ numL d.n) ++ recsL d.rc d.n) ++ numL d.m) := HQ.out
      clear HQ
      go_loopw [3, 61] (fun o i wr => ∃ (k : Nat) (a1 : Option Addr) (cap1 : Nat) (Lk : List UInt8), k ≤ d.m ∧ i = .int .i64 k ∧ o = .slice a1 (List.length Lk) cap1 ∧ Hid (Lk = (((((numL d.code ++ numL d.ti) ++ numL d.ma) ++ numL d.n) ++ recsL d.rc d.n) ++ numL d.m) ++ txtsL d.v k) ∧ Hid (TW N w1 B (rpC d x) (110 + d.n * 1048686 + k * 1048598) wr a1 cap1 Lk)) (fun _ i _ => d.m - (intOf i).toNat)
      case atStart => exact ⟨0, a2, cap2, L2, Nat.zero_le _, rfl, rfl, (by show _ = _; rw [HL3.out]; simp [txtsL]), (by show TW _ _ _ _ _ _ _ _ _; have h := HT.out; exact ⟨h.own, h.b, h.h, h.n, h.sz, by have := h.len; omega⟩)⟩
      case round =>
        clear HT HL3
        obtain ⟨k, a1, cap1, Lk, hk, rfl, rfl, HQ, HT⟩ := hrel
        by_cases hkm : k < d.m
        · obtain ⟨b, off, hva, _, hb, d0⟩ := cells1 (RowN.below HA1.out.2 (by rw [← HNw.out]; exact HT.out.b)) hkm
          rw [hva]
          have hsk := HS.out.v k hkm
          go_wp2_with (go_at_call 37; refine (l5text_calls N _ _ _ _ _ HT.out.sz (Nat.le_trans HT.out.len (by omega)) hsk HT.out.own).mono ?_; rintro e w2 ⟨⟨a2, cap2, L2, rfl, hL2, ho2, ha2⟩, hg2⟩; replace HT : Hid (TW N w1 B (rpC d x) _ _ _ _ _) := HT.out.next hg2 ho2 ha2 _ (by rw [hL2]; exact txt_len _ hsk HT.out.len); replace HQ : Hid (L2 = _) := hL2.trans (congrArg (· ++ _) HQ.out); clear hL2 ho2 ha2 hg2 d0; skip)
          go_roundw
          case rel => exact ⟨k + 1, a2, cap2, L2, by omega, by go_num, rfl, (by have h := HQ.out; show _ = _; rw [h]; simp [txtsL, List.append_assoc]), (by show TW _ _ _ _ _ _ _ _ _; have h := HT.out; exact ⟨h.own, h.b, h.h, h.n, h.sz, by have := h.len; omega⟩)⟩
          case measure => simp [intOf]; omega
        · obtain rfl : k = d.m := by omega
          have hse := HS.out.er
          have hst := HS.out.tr
          have c0 : wr.cell? ⟨B, 0, none⟩ = some (.int .i64 d.code) := HT.out.h.cell 0 rfl
          have c1 : wr.cell? ⟨B, 1, none⟩ = some (.slice x.ra d.n x.rc) := HT.out.h.cell 1 rfl
          have c2 : wr.cell? ⟨B, 2, none⟩ = some (.slice x.va d.m x.vc) := HT.out.h.cell 2 rfl
          have c3 : wr.cell? ⟨B, 3, none⟩ = some (.string d.er) := HT.out.h.cell 3 rfl
          have c4 : wr.cell? ⟨B, 4, none⟩ = some (.string d.tr) := HT.out.h.cell 4 rfl
          have c5 : wr.cell? ⟨B, 5, none⟩ = some (.int .i64 d.ti) := HT.out.h.cell 5 rfl
          have c6 : wr.cell? ⟨B, 6, none⟩ = some (.int .i64 d.ma) := HT.out.h.cell 6 rfl
          go_wp2_with (go_at_call 37; refine (l5text_calls N _ _ _ _ _ HT.out.sz (Nat.le_trans HT.out.len (by omega)) (by first | exact hse | exact hst) HT.out.own).mono ?_; rintro e w2 ⟨⟨a2, cap2, L2, rfl, hL2, ho2, ha2⟩, hg2⟩; replace HT : Hid (TW N w1 B (rpC d x) _ _ _ _ _) := HT.out.next hg2 ho2 ha2 _ (by rw [hL2]; exact txt_len _ (by first | exact hse | exact hst) HT.out.len); replace HQ : Hid (L2 = _) := hL2.trans (congrArg (· ++ _) HQ.out); clear hL2 ho2 ha2 hg2; clear c0 c1 c2 c3 c4 c5 c6; have c0 : w2.cell? ⟨B, 0, none⟩ = some (.int .i64 d.code) := HT.out.h.cell 0 rfl; have c1 : w2.cell? ⟨B, 1, none⟩ = some (.slice x.ra d.n x.rc) := HT.out.h.cell 1 rfl; have c2 : w2.cell? ⟨B, 2, none⟩ = some (.slice x.va d.m x.vc) := HT.out.h.cell 2 rfl; have c3 : w2.cell? ⟨B, 3, none⟩ = some (.string d.er) := HT.out.h.cell 3 rfl; have c4 : w2.cell? ⟨B, 4, none⟩ = some (.string d.tr) := HT.out.h.cell 4 rfl; have c5 : w2.cell? ⟨B, 5, none⟩ = some (.int .i64 d.ti) := HT.out.h.cell 5 rfl; have c6 : w2.cell? ⟨B, 6, none⟩ = some (.int .i64 d.ma) := HT.out.h.cell 6 rfl; skip)
          go_ret
          have HE : L2 = tellL d := HQ.out
          refine ⟨⟨a2, cap2, L2, rfl, HE, ownsK_base' HT.out.own (by have := HBw.out; omega)⟩, ?_⟩
          · exact HB1.out.trans (HT.out.b.mono (by have := HBw.out; omega))
set_option maxRecDepth 100000 in
set_option maxHeartbeats 4000000 in
theorem specTell_calls (L0 : Nat) (d : RpD) (x : RpX) (w : World) (hd : d.wf) (hs : d.sm) (hT : RpAt L0 w d x) :
    Calls Tryd.prog 6 #[rpV d x] w fun e w' => (∃ a' cap' L', e = .returned (.slice a' (List.length L') cap') ∧ L' = toldL d ∧ OwB w.heap.size w' a' cap' L') ∧ Below w.heap.size w w' := by
  have HTa : Hid (RpAt L0 w d x) := hT
  have hl := tellL_len d hs
  go_enter Tryd.func6, Tryd.ntmps6
  go_wp2_with fail
  refine (l5tell_calls L0 d x _ hd hs (HTa.out.alloc _)).mono ?_
  rintro e w2 ⟨⟨a2, cap2, L2, rfl, hL2, ho2⟩, hb2⟩
  have HO : Hid (OwB w.heap.size w2 a2 cap2 L2) := ownsK_base' ho2 (by simp)
  have HB : Hid (Below w.heap.size w w2) := below_call (below_alloc _ _) hb2
  rw [← hL2] at hl
  have HE : Hid (L2 = tellL d) := hL2
  clear ho2 hb2 hT hL2
  by_cases c : 1000000 < L2.length
  · have HE2 : Hid ([] = toldL d) := by show _ = _; unfold toldL; rw [if_pos (by rw [← HE.out]; exact c)]
    have c' : (1000000 : Int) < (L2.length : Int) := by omega
    go_wp2_with fail
    go_ret
    exact ⟨⟨none, 0, [], rfl, HE2.out, World.ownsRow_nil _ _ _ _⟩, HB.out⟩
  · have HE2 : Hid (L2 = toldL d) := by show _ = _; unfold toldL; rw [if_neg (by rw [← HE.out]; exact c)]; exact HE.out
    have c' : ¬ (1000000 : Int) < (L2.length : Int) := by omega
    go_wp2_with fail
    go_ret
    exact ⟨⟨a2, cap2, L2, rfl, HE2.out, HO.out⟩, HB.out⟩
end Go.Proofs.YtiidepafifodjaaDoor
