import Derived.Test.YtcpjnddkibbddaaGreatLnZ
/-! Units copied by the laws, once more: fns, the unit. -/
namespace Go.Proofs.YtcpjnddkibbddaaGreat
open Go.RowKit
attribute [local go_sem] run_store_float

set_option maxRecDepth 100000 in
set_option maxHeartbeats 4000000 in
theorem toFn_callsZ (L : Nat) (d : FD) (x : FA) (w : World) (hs : d.sm) (hT : FnAt L w d x) :
    Calls Tryz.prog 28 #[fnV d x] w fun e w' => (∃ x', e = .returned (fnV d x') ∧ FnAt w.heap.size w' d x' ∧ CapF d x' ∧ FnZ w' d x') ∧ Below w.heap.size w w' := by
  have HT : Hid (FnAt L w d x) := hT
  have HS : Hid d.sm := hs
  clear hT hs
  have p1 : w.heap.size ≤ w.heap.size + 1 := Nat.le_add_right _ _
  have p2 : w.heap.size ≤ w.heap.size + 1 + 1 := Nat.le_add_right _ 2
  go_enter Tryz.func28, Tryz.ntmps28
  go_wp2_with fail
  refine (toStringS_callsZ L _ _ _ d.v _ HS.out.vn (((HT.out.alloc _).alloc _).alloc _).1).mono ?_
  rintro e w2 ⟨⟨B1, rfl, hB1, hq1, hI1⟩, hb2⟩
  have HZ1 : Hid (Zf w2 B1) := hq1
  clear hq1
  have HI1 : Hid (RowN 1 B1 w2 (some ⟨B1, 0, none⟩) d.vn fun i => #[.string (d.v i)]) := hI1
  have HB : Hid (Below w.heap.size w w2) := below_call (below_alloc3 _ _ _ _) hb2
  obtain ⟨hc2, hf2⟩ := bcell hb2
  have hz2 := hb2.size
  (try simp at hz2 hB1)
  have ha2 : w.heap.size < w2.heap.size := by omega
  have hb2' : w.heap.size + 1 < w2.heap.size := by omega
  have hc2' : w.heap.size + 1 + 1 < w2.heap.size := by omega
  clear hI1 hb2
  have HB2 : Hid (Below w.heap.size w (w2.setCell ⟨w.heap.size + 1 + 1, 4, none⟩ (.slice (some ⟨B1, 0, none⟩) d.vn d.vn))) := frS HB.out p2 _
  go_wp2_with fail
  refine (toUpS_callsZ L _ _ _ d.u _ HS.out.un (HT.out.below HB2.out).2.1).mono ?_
  rintro e w3 ⟨⟨B2, rfl, hB2, hq2, hI2⟩, hb3⟩
  have HZ2 : Hid (Zf w3 B2) := hq2
  clear hq2
  replace HZ1 : Hid (Zf w3 B1) := (HZ1.out.set _ _).below hb3
  have HI2 : Hid (RowN 2 B2 w3 (some ⟨B2, 0, none⟩) d.un fun i => upC (d.u i)) := hI2
  replace HI1 : Hid (RowN 1 B1 w3 (some ⟨B1, 0, none⟩) d.vn fun i => #[.string (d.v i)]) := RowN.below (RowN.set HI1.out (p := ⟨w.heap.size + 1 + 1, 4, none⟩) (by show w.heap.size + 1 + 1 < B1; omega) _) hb3
  replace HB : Hid (Below w.heap.size w w3) := below_call HB2.out hb3
  obtain ⟨hc3, hf3⟩ := bcell hb3
  have hz3 := hb3.size
  (try simp at hz3 hB2)
  have ha3 : w.heap.size < w3.heap.size := by omega
  have hb3' : w.heap.size + 1 < w3.heap.size := by omega
  have hc3' : w.heap.size + 1 + 1 < w3.heap.size := by omega
  clear hb3 hI2 HB2
  have HB3 : Hid (Below w.heap.size w (w3.setCell ⟨w.heap.size + 1 + 1, 5, none⟩ (.slice (some ⟨B2, 0, none⟩) d.un d.un))) := frS HB.out p2 _
  go_wp2_with fail
  refine (toNodeS_callsZ L _ _ _ d.nd x.nas _ HS.out.nn HS.out.nd (HT.out.below HB3.out).2.2).mono ?_
  rintro e w4 ⟨⟨B3, y, rfl, hB3, hI3, hC3, hq3, hq4⟩, hb4⟩
  have HZ3 : Hid (FnZ w4 d ⟨some ⟨B1, 0, none⟩, d.vn, some ⟨B2, 0, none⟩, d.un, some ⟨B3, 0, none⟩, d.nn, y⟩) := ⟨B1, B2, B3, rfl, rfl, rfl, (HZ1.out.set _ _).below hb4, (HZ2.out.set _ _).below hb4, hq3, hq4⟩
  clear hq3 hq4 HZ1 HZ2
  have HC3 : Hid (∀ i, i < d.nn → (d.nd i).kn ≤ (y i).kc) := hC3
  clear hC3
  have HI3 : Hid (NodesAt B3 w4 d.nn d.nd (some ⟨B3, 0, none⟩) y) := hI3
  replace HI1 : Hid (RowN 1 B1 w4 (some ⟨B1, 0, none⟩) d.vn fun i => #[.string (d.v i)]) := RowN.below (RowN.set HI1.out (p := ⟨w.heap.size + 1 + 1, 5, none⟩) (by show w.heap.size + 1 + 1 < B1; omega) _) hb4
  replace HI2 : Hid (RowN 2 B2 w4 (some ⟨B2, 0, none⟩) d.un fun i => upC (d.u i)) := RowN.below (RowN.set HI2.out (p := ⟨w.heap.size + 1 + 1, 5, none⟩) (by show w.heap.size + 1 + 1 < B2; omega) _) hb4
  replace HB : Hid (Below w.heap.size w w4) := below_call HB3.out hb4
  obtain ⟨hc4, hf4⟩ := bcell hb4
  have hz4 := hb4.size
  (try simp at hz4 hB3)
  have ha4 : w.heap.size < w4.heap.size := by omega
  have hb4' : w.heap.size + 1 < w4.heap.size := by omega
  have hc4' : w.heap.size + 1 + 1 < w4.heap.size := by omega
  clear hb4 hI3 HB3
  go_wp2_with fail
  refine bodyPost_ret (v := fnV d ⟨some ⟨B1, 0, none⟩, d.vn, some ⟨B2, 0, none⟩, d.un, some ⟨B3, 0, none⟩, d.nn, y⟩) (by simp [results, Tryz.results28, go_sem, hc4, hc3, hc2, hb2', hb3']) rfl ⟨⟨_, rfl, ?_, ⟨Nat.le_refl _, HC3.out⟩, ((((((((HZ3.out.set _ _).set _ _).set _ _).set _ _).set _ _).set _ _).set _ _).set _ _)⟩, ?_⟩
  · have h0 : FnAt (w.heap.size + 1 + 1 + 1) w4 d ⟨some ⟨B1, 0, none⟩, d.vn, some ⟨B2, 0, none⟩, d.un, some ⟨B3, 0, none⟩, d.nn, y⟩ := ⟨HI1.out.less (by omega), HI2.out.less (by omega), HI3.out.less (by omega)⟩
    exact ((h0.set (p := ⟨w.heap.size + 1 + 1, 6, none⟩) (by show w.heap.size + 1 + 1 < _; omega) _).sets7 (by omega) _ _ _ _ _ _ _).less (by omega)
  · exact below7 (frS HB.out p2 _) p1 _ _ _ _ _ _ _

theorem FnsIn.putZ {w : World} {B k n : Nat} {q : Nat → FD} {y : Nat → FA} {f : Nat → Value} (h : FnsIn w B k q y n f) (x : FA) (hx : FnAt (B + 1) w (q k) x) (hc : CapF (q k) x) :
    ∃ y' f', FnsIn (((((((w.setCell ⟨B, k * 7, none⟩ (.string (q k).name)).setCell ⟨B, k * 7 + 1, none⟩ (.int .i64 (q k).line)).setCell ⟨B, k * 7 + 2, none⟩ (.int .i64 (q k).params)).setCell ⟨B, k * 7 + 3, none⟩ (.bool (q k).rest)).setCell ⟨B, k * 7 + 4, none⟩ (.slice x.va (q k).vn x.vc)).setCell ⟨B, k * 7 + 5, none⟩ (.slice x.ua (q k).un x.uc)).setCell ⟨B, k * 7 + 6, none⟩ (.slice x.na (q k).nn x.nc)) B (k + 1) q y' n f' ∧ (∀ i, i < k → y' i = y i) ∧ y' k = x := by
  obtain ⟨f', hR, hf⟩ := put7 h.row k _ h.cells (.string (q k).name) (.int .i64 (q k).line) (.int .i64 (q k).params) (.bool (q k).rest) (.slice x.va (q k).vn x.vc) (.slice x.ua (q k).un x.uc) (.slice x.na (q k).nn x.nc) (fun i => fnC (q i) (if i = k then x else y i)) (fun i hi => by rw [if_neg (by omega)]) (by rw [if_pos rfl])
  refine ⟨fun i => if i = k then x else y i, f', ⟨hR, hf, fun i hi => ?_, fun i hi => by
    by_cases e : i = k
    · subst e; rw [if_pos rfl]; exact hc
    · rw [if_neg e]; exact h.caps i (by omega)⟩, fun i hi => by show (if i = k then x else y i) = y i; rw [if_neg (by omega)], by show (if k = k then x else y k) = x; rw [if_pos rfl]⟩
  by_cases e : i = k
  · subst e
    rw [if_pos rfl]
    exact hx.setsK (by omega) _ _ _ _ _ _ _ _
  · rw [if_neg e]
    exact (h.fns i (by omega)).setsK (by omega) _ _ _ _ _ _ _ _
theorem FnsIn.more {w w' : World} {k : Nat} {q : Nat → FD} {y y' : Nat → FA} (h : ∀ i, i < k → FnZ w (q i) (y i)) {x : FA} (hx : FnZ w (q k) x) (e : ∀ i, i < k → y' i = y i) (e2 : y' k = x) (hw : ∀ d z, FnZ w d z → FnZ w' d z) : ∀ i, i < k + 1 → FnZ w' (q i) (y' i) := fun i hi => by
  by_cases c : i = k
  · subst c; rw [e2]; exact hw _ _ hx
  · rw [e i (by omega)]; exact hw _ _ (h i (by omega))

set_option maxRecDepth 100000 in
set_option maxHeartbeats 4000000 in
theorem toFnS_callsZ (L : Nat) (a : Option Addr) (n cap : Nat) (q : Nat → FD) (x : Nat → FA) (w : World) (hn : n ≤ 1048576) (hq : ∀ i, i < n → (q i).sm) (hT : FnsAt L w n q a x) :
    Calls Tryz.prog 17 #[.slice a n cap] w fun e w' => (∃ B y, e = .returned (.slice (some ⟨B, 0, none⟩) n n) ∧ w.heap.size ≤ B ∧ FnsAt B w' n q (some ⟨B, 0, none⟩) y ∧ (∀ i, i < n → CapF (q i) (y i)) ∧ Zf w' B ∧ ∀ i, i < n → FnZ w' (q i) (y i)) ∧ Below w.heap.size w w' := by
  have hQ : Hid (∀ i, i < n → (q i).sm) := hq
  have HT : Hid (FnsAt L w n q a x) := hT
  clear hT hq
  obtain ⟨c, hcs, hmk⟩ := make_fns n hn w
  have hR0 := rowOfC w c 45
  rw [hcs] at hR0
  have hB0 := below_alloc w (.cells c 45)
  go_enter Tryz.func17, Tryz.ntmps17
  go_wp2_with fail
  clear hmk
  go_loopw [4] (fun i wr => ∃ (k : Nat) (y : Nat → FA) (f : Nat → Value), k ≤ n ∧ i = .int .i64 k ∧ FnsIn wr w.heap.size k q y n f ∧ Hid (∀ i, i < k → FnZ wr (q i) (y i)) ∧ Below w.heap.size w wr) (fun i _ => n - (intOf i).toNat)
  case atStart => exact ⟨0, fun _ => default, _, Nat.zero_le _, rfl, ⟨hR0, fun m hm => by omega, fun i hi => by omega, fun i hi => by omega⟩, (fun i hi => by omega), hB0⟩
  case round =>
    clear hR0 hB0 hcs
    obtain ⟨k, y, f, hk, rfl, hI, HZ, hB⟩ := hrel
    have HI : Hid (FnsIn wr w.heap.size k q y n f) := hI
    clear hI
    by_cases hkn : k < n
    · obtain ⟨b, off, rfl, _, hb, d0, d1, d2, d3, d4, d5, d6⟩ := cells7 (HT.out.1.below hB) hkn
      go_wp2_with fail
      refine (toFn_callsZ L (q k) (x k) wr (hQ.out k hkn) ((HT.out.2 k hkn).below hB)).mono ?_
      rintro e w2 ⟨⟨x', rfl, hx', hxc, hxz⟩, hb2⟩
      have HXZ : Hid (FnZ w2 (q k) x') := hxz
      replace HZ : Hid (∀ i, i < k → FnZ w2 (q i) (y i)) := fun i hi => (HZ.out i hi).below hb2
      clear hxz
      have HXC : Hid (CapF (q k) x') := hxc
      clear hxc
      have hlt := HI.out.row.lt
      replace HI := HI.out.call hb2
      have hX : Hid (FnAt (w.heap.size + 1) w2 (q k) x') := hx'.less (by have h1 := hb2.size; have h2 := hB.size; omega)
      replace hB := below_call hB hb2
      clear d0 d1 d2 d3 d4 d5 d6 hb2 hx'
      have g0 := HI.row.cell (i := k * 7) (by omega)
      have g1 := HI.row.cell (i := k * 7 + 1) (by omega)
      have g2 := HI.row.cell (i := k * 7 + 2) (by omega)
      have g3 := HI.row.cell (i := k * 7 + 3) (by omega)
      have g4 := HI.row.cell (i := k * 7 + 4) (by omega)
      have g5 := HI.row.cell (i := k * 7 + 5) (by omega)
      have g6 := HI.row.cell (i := k * 7 + 6) (by omega)
      have z := HI.row.frozen
      obtain ⟨y', f', hI2, hy1, hy2⟩ := HI.putZ x' hX.out HXC.out
      have HZ2 : Hid _ := FnsIn.more HZ.out HXZ.out hy1 hy2 (fun d z hz => hz.sets7 w.heap.size k (.string (q k).name) (.int .i64 (q k).line) (.int .i64 (q k).params) (.bool (q k).rest) (.slice x'.va (q k).vn x'.vc) (.slice x'.ua (q k).un x'.uc) (.slice x'.na (q k).nn x'.nc))
      clear hy1 hy2 HZ HXZ
      have HI2 : Hid _ := hI2
      clear HI hI2
      go_wp2_with fail
      go_roundw
      case rel => exact ⟨k + 1, y', f', by omega, by go_num, HI2.out, HZ2, fr7 k _ _ _ _ _ _ _ hB⟩
      case measure => simp [intOf]; omega
    · go_wp2_with fail
      have : k = n := by omega
      subst this
      go_ret
      exact ⟨⟨_, y, rfl, Nat.le_refl _, ⟨rowK (fun _ _ => rfl) (HI.out.row.congr HI.out.cells), fun i hi => (HI.out.fns i hi).less (by omega)⟩, HI.out.caps, Zf.of HI.out.row, HZ.out⟩, hB⟩

set_option maxRecDepth 100000 in
set_option maxHeartbeats 4000000 in
theorem toUnit_callsZ (L : Nat) (d : UD) (a : Option Addr) (cap : Nat) (x : Nat → FA) (w : World) (hs : d.sm) (hT : FnsAt L w d.n d.fn a x) :
    Calls Tryz.prog 6 #[unV d a cap] w fun e w' => (∃ B y, e = .returned (unV d (some ⟨B, 0, none⟩) d.n) ∧ w.heap.size ≤ B ∧ FnsAt B w' d.n d.fn (some ⟨B, 0, none⟩) y ∧ (∀ i, i < d.n → CapF (d.fn i) (y i)) ∧ Zf w' B ∧ ∀ i, i < d.n → FnZ w' (d.fn i) (y i)) ∧ Below w.heap.size w w' := by
  have HT : Hid (FnsAt L w d.n d.fn a x) := hT
  have HS : Hid d.sm := hs
  clear hT hs
  go_enter Tryz.func6, Tryz.ntmps6
  go_wp2_with fail
  refine (toFnS_callsZ L _ _ _ d.fn x _ HS.out.n HS.out.fn (((HT.out.alloc _).alloc _).alloc _)).mono ?_
  rintro e w2 ⟨⟨B1, y, rfl, hB1, hI1, hC1, hq1, hq2⟩, hb2⟩
  have HZ1 : Hid (Zf w2 B1) := hq1
  have HZ2 : Hid (∀ i, i < d.n → FnZ w2 (d.fn i) (y i)) := hq2
  clear hq1 hq2
  have HC1 : Hid (∀ i, i < d.n → CapF (d.fn i) (y i)) := hC1
  clear hC1
  have HI1 : Hid (FnsAt B1 w2 d.n d.fn (some ⟨B1, 0, none⟩) y) := hI1
  have HB : Hid (Below w.heap.size w w2) := below_call (below_alloc3 _ _ _ _) hb2
  obtain ⟨hc2, hf2⟩ := bcell hb2
  have hz2 := hb2.size
  (try simp at hz2 hB1)
  have ha2 : w.heap.size < w2.heap.size := by omega
  have hb2' : w.heap.size + 1 < w2.heap.size := by omega
  have hc2' : w.heap.size + 1 + 1 < w2.heap.size := by omega
  clear hI1 hb2
  go_wp2_with fail
  refine bodyPost_ret (v := unV d (some ⟨B1, 0, none⟩) d.n) (by simp [results, Tryz.results6, go_sem, hc2]) rfl ⟨⟨B1, y, rfl, by omega, ?_, HC1.out, (HZ1.out.set _ _).set _ _, fun i hi => ((HZ2.out i hi).set _ _).set _ _⟩, ?_⟩
  · exact (HI1.out.set (p := ⟨w.heap.size + 1 + 1, 0, none⟩) (by show w.heap.size + 1 + 1 < _; omega) _).set (p := ⟨w.heap.size + 1, 0, none⟩) (by show w.heap.size + 1 < _; omega) _
  · exact frS (frS HB.out (Nat.le_add_right _ 2) _) (Nat.le_add_right _ 1) _

end Go.Proofs.YtcpjnddkibbddaaGreat
