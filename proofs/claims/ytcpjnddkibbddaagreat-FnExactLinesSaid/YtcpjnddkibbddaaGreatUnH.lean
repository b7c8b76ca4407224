import Derived.Test.YtcpjnddkibbddaaGreatImN
import Derived.Test.YtcpjnddkibbddaaGreatImS
import Derived.Test.YtcpjnddkibbddaaGreatFitQ
/-! Units copied by the laws: fns and units. -/
namespace Go.Proofs.YtcpjnddkibbddaaGreat
open Go.RowKit
attribute [local go_sem] run_store_float

theorem below7 {B : Nat} {u w : World} (h : Below B u w) {b : Nat} (hp : B ≤ b) (v0 v1 v2 v3 v4 v5 v6 : Value) : Below B u (((((((w.setCell ⟨b, 0, none⟩ v0).setCell ⟨b, 1, none⟩ v1).setCell ⟨b, 2, none⟩ v2).setCell ⟨b, 3, none⟩ v3).setCell ⟨b, 4, none⟩ v4).setCell ⟨b, 5, none⟩ v5).setCell ⟨b, 6, none⟩ v6) := frS (frS (frS (frS (frS (frS (frS h hp _) hp _) hp _) hp _) hp _) hp _) hp _
theorem FnAt.sets7 {L : Nat} {w : World} {d : FD} {x : FA} (h : FnAt L w d x) {b : Nat} (hp : b < L) (v0 v1 v2 v3 v4 v5 v6 : Value) : FnAt L (((((((w.setCell ⟨b, 0, none⟩ v0).setCell ⟨b, 1, none⟩ v1).setCell ⟨b, 2, none⟩ v2).setCell ⟨b, 3, none⟩ v3).setCell ⟨b, 4, none⟩ v4).setCell ⟨b, 5, none⟩ v5).setCell ⟨b, 6, none⟩ v6) d x :=
  (((((((h.set (p := ⟨b, 0, none⟩) hp v0).set (p := ⟨b, 1, none⟩) hp v1).set (p := ⟨b, 2, none⟩) hp v2).set (p := ⟨b, 3, none⟩) hp v3).set (p := ⟨b, 4, none⟩) hp v4).set (p := ⟨b, 5, none⟩) hp v5).set (p := ⟨b, 6, none⟩) hp v6)
theorem FnAt.setsK {L : Nat} {w : World} {d : FD} {x : FA} (h : FnAt L w d x) {b : Nat} (hp : b < L) (k : Nat) (v0 v1 v2 v3 v4 v5 v6 : Value) : FnAt L (((((((w.setCell ⟨b, k * 7, none⟩ v0).setCell ⟨b, k * 7 + 1, none⟩ v1).setCell ⟨b, k * 7 + 2, none⟩ v2).setCell ⟨b, k * 7 + 3, none⟩ v3).setCell ⟨b, k * 7 + 4, none⟩ v4).setCell ⟨b, k * 7 + 5, none⟩ v5).setCell ⟨b, k * 7 + 6, none⟩ v6) d x :=
  (((((((h.set (p := ⟨b, k * 7, none⟩) hp v0).set (p := ⟨b, k * 7 + 1, none⟩) hp v1).set (p := ⟨b, k * 7 + 2, none⟩) hp v2).set (p := ⟨b, k * 7 + 3, none⟩) hp v3).set (p := ⟨b, k * 7 + 4, none⟩) hp v4).set (p := ⟨b, k * 7 + 5, none⟩) hp v5).set (p := ⟨b, k * 7 + 6, none⟩) hp v6)

/-- room for what a fn's lists hold -/
def CapF (d : FD) (x : FA) : Prop := d.nn ≤ x.nc ∧ ∀ i, i < d.nn → (d.nd i).kn ≤ (x.nas i).kc

set_option maxRecDepth 100000 in
set_option maxHeartbeats 4000000 in
theorem toFn_calls (L : Nat) (d : FD) (x : FA) (w : World) (hs : d.sm) (hT : FnAt L w d x) :
    Calls Tryz.prog 28 #[fnV d x] w fun e w' => (∃ x', e = .returned (fnV d x') ∧ FnAt w.heap.size w' d x' ∧ CapF d x') ∧ Below w.heap.size w w' := by
  have HT : Hid (FnAt L w d x) := hT
  have HS : Hid d.sm := hs
  clear hT hs
  have p1 : w.heap.size ≤ w.heap.size + 1 := Nat.le_add_right _ _
  have p2 : w.heap.size ≤ w.heap.size + 1 + 1 := Nat.le_add_right _ 2
  go_enter Tryz.func28, Tryz.ntmps28
  go_wp2_with fail
  refine (toStringS_calls L _ _ _ d.v _ HS.out.vn (((HT.out.alloc _).alloc _).alloc _).1).mono ?_
  rintro e w2 ⟨⟨B1, rfl, hB1, hI1⟩, hb2⟩
  have HI1 : Hid (RowN 1 B1 w2 (some ⟨B1, 0, none⟩) d.vn fun i => #[.string (d.v i)]) := hI1
  have HB : Hid (Below w.heap.size w w2) := below_call (below_alloc3 _ _ _ _) hb2
  obtain ⟨hc2, hf2⟩ := bcell hb2
  have hz2 := hb2.size
  (try simp at hz2 hB1)
  have ha2 : w.heap.size < w2.heap.size := by omega
  have hb2' : w.heap.size + 1 < w2.heap.size := by omega
  have hc2' : w.heap.size + 1 + 1 < w2.heap.size := by omega
  clear hI1 hb2
  have HB2 : Hid (Below w.heap.size w (w2.setCell ⟨w.heap.size + 1 + 1, 4, none⟩ (.slice (some ⟨B1, 0, none⟩) d.vn d.vn))) := frS HB.out p2 _
  go_wp2_with fail
  refine (toUpS_calls L _ _ _ d.u _ HS.out.un (HT.out.below HB2.out).2.1).mono ?_
  rintro e w3 ⟨⟨B2, rfl, hB2, hI2⟩, hb3⟩
  have HI2 : Hid (RowN 2 B2 w3 (some ⟨B2, 0, none⟩) d.un fun i => upC (d.u i)) := hI2
  replace HI1 : Hid (RowN 1 B1 w3 (some ⟨B1, 0, none⟩) d.vn fun i => #[.string (d.v i)]) := RowN.below (RowN.set HI1.out (p := ⟨w.heap.size + 1 + 1, 4, none⟩) (by show w.heap.size + 1 + 1 < B1; omega) _) hb3
  replace HB : Hid (Below w.heap.size w w3) := below_call HB2.out hb3
  obtain ⟨hc3, hf3⟩ := bcell hb3
  have hz3 := hb3.size
  (try simp at hz3 hB2)
  have ha3 : w.heap.size < w3.heap.size := by omega
  have hb3' : w.heap.size + 1 < w3.heap.size := by omega
  have hc3' : w.heap.size + 1 + 1 < w3.heap.size := by omega
  clear hb3 hI2 HB2
  have HB3 : Hid (Below w.heap.size w (w3.setCell ⟨w.heap.size + 1 + 1, 5, none⟩ (.slice (some ⟨B2, 0, none⟩) d.un d.un))) := frS HB.out p2 _
  go_wp2_with fail
  refine (toNodeS_calls L _ _ _ d.nd x.nas _ HS.out.nn HS.out.nd (HT.out.below HB3.out).2.2).mono ?_
  rintro e w4 ⟨⟨B3, y, rfl, hB3, hI3, hC3⟩, hb4⟩
  have HC3 : Hid (∀ i, i < d.nn → (d.nd i).kn ≤ (y i).kc) := hC3
  clear hC3
  have HI3 : Hid (NodesAt B3 w4 d.nn d.nd (some ⟨B3, 0, none⟩) y) := hI3
  replace HI1 : Hid (RowN 1 B1 w4 (some ⟨B1, 0, none⟩) d.vn fun i => #[.string (d.v i)]) := RowN.below (RowN.set HI1.out (p := ⟨w.heap.size + 1 + 1, 5, none⟩) (by show w.heap.size + 1 + 1 < B1; omega) _) hb4
  replace HI2 : Hid (RowN 2 B2 w4 (some ⟨B2, 0, none⟩) d.un fun i => upC (d.u i)) := RowN.below (RowN.set HI2.out (p := ⟨w.heap.size + 1 + 1, 5, none⟩) (by show w.heap.size + 1 + 1 < B2; omega) _) hb4
  replace HB : Hid (Below w.heap.size w w4) := below_call HB3.out hb4
  obtain ⟨hc4, hf4⟩ := bcell hb4
  have hz4 := hb4.size
  (try simp at hz4 hB3)
  have ha4 : w.heap.size < w4.heap.size := by omega
  have hb4' : w.heap.size + 1 < w4.heap.size := by omega
  have hc4' : w.heap.size + 1 + 1 < w4.heap.size := by omega
  clear hb4 hI3 HB3
  go_wp2_with fail
  refine bodyPost_ret (v := fnV d ⟨some ⟨B1, 0, none⟩, d.vn, some ⟨B2, 0, none⟩, d.un, some ⟨B3, 0, none⟩, d.nn, y⟩) (by simp [results, Tryz.results28, go_sem, hc4, hc3, hc2, hb2', hb3']) rfl ⟨⟨_, rfl, ?_, Nat.le_refl _, HC3.out⟩, ?_⟩
  · have h0 : FnAt (w.heap.size + 1 + 1 + 1) w4 d ⟨some ⟨B1, 0, none⟩, d.vn, some ⟨B2, 0, none⟩, d.un, some ⟨B3, 0, none⟩, d.nn, y⟩ := ⟨HI1.out.less (by omega), HI2.out.less (by omega), HI3.out.less (by omega)⟩
    exact ((h0.set (p := ⟨w.heap.size + 1 + 1, 6, none⟩) (by show w.heap.size + 1 + 1 < _; omega) _).sets7 (by omega) _ _ _ _ _ _ _).less (by omega)
  · exact below7 (frS HB.out p2 _) p1 _ _ _ _ _ _ _

theorem FnsAt.set {L : Nat} {w : World} {n : Nat} {fn : Nat → FD} {a : Option Addr} {fas : Nat → FA} (h : FnsAt L w n fn a fas) {p : Addr} (hp : p.block < L) (v : Value) : FnsAt L (w.setCell p v) n fn a fas := ⟨h.1.set hp v, fun i hi => (h.2 i hi).set hp v⟩

/-- the first k fns are copied -/
structure FnsIn (w : World) (B k : Nat) (q : Nat → FD) (y : Nat → FA) (n : Nat) (f : Nat → Value) : Prop where
  row : w.rowIs B 45 (n * 7) f
  cells : ∀ m, m < k * 7 → f m = flK 7 (fun i => fnC (q i) (y i)) m
  fns : ∀ i, i < k → FnAt (B + 1) w (q i) (y i)
  caps : ∀ i, i < k → CapF (q i) (y i)

theorem FnsIn.put {w : World} {B k n : Nat} {q : Nat → FD} {y : Nat → FA} {f : Nat → Value} (h : FnsIn w B k q y n f) (x : FA) (hx : FnAt (B + 1) w (q k) x) (hc : CapF (q k) x) :
    ∃ y' f', FnsIn (((((((w.setCell ⟨B, k * 7, none⟩ (.string (q k).name)).setCell ⟨B, k * 7 + 1, none⟩ (.int .i64 (q k).line)).setCell ⟨B, k * 7 + 2, none⟩ (.int .i64 (q k).params)).setCell ⟨B, k * 7 + 3, none⟩ (.bool (q k).rest)).setCell ⟨B, k * 7 + 4, none⟩ (.slice x.va (q k).vn x.vc)).setCell ⟨B, k * 7 + 5, none⟩ (.slice x.ua (q k).un x.uc)).setCell ⟨B, k * 7 + 6, none⟩ (.slice x.na (q k).nn x.nc)) B (k + 1) q y' n f' := by
  obtain ⟨f', hR, hf⟩ := put7 h.row k _ h.cells (.string (q k).name) (.int .i64 (q k).line) (.int .i64 (q k).params) (.bool (q k).rest) (.slice x.va (q k).vn x.vc) (.slice x.ua (q k).un x.uc) (.slice x.na (q k).nn x.nc) (fun i => fnC (q i) (if i = k then x else y i)) (fun i hi => by rw [if_neg (by omega)]) (by rw [if_pos rfl])
  refine ⟨fun i => if i = k then x else y i, f', ⟨hR, hf, fun i hi => ?_, fun i hi => by
    by_cases e : i = k
    · subst e; rw [if_pos rfl]; exact hc
    · rw [if_neg e]; exact h.caps i (by omega)⟩⟩
  by_cases e : i = k
  · subst e
    rw [if_pos rfl]
    exact hx.setsK (by omega) _ _ _ _ _ _ _ _
  · rw [if_neg e]
    exact (h.fns i (by omega)).setsK (by omega) _ _ _ _ _ _ _ _
theorem FnsIn.call {w w' : World} {B k n : Nat} {q : Nat → FD} {y : Nat → FA} {f : Nat → Value} (h : FnsIn w B k q y n f) (hb : Below w.heap.size w w') : FnsIn w' B k q y n f :=
  ⟨h.row.of_block (hb.block _ h.row.lt), h.cells, fun i hi => (h.fns i hi).below hb, h.caps⟩

set_option maxRecDepth 100000 in
set_option maxHeartbeats 4000000 in
theorem toFnS_calls (L : Nat) (a : Option Addr) (n cap : Nat) (q : Nat → FD) (x : Nat → FA) (w : World) (hn : n ≤ 1048576) (hq : ∀ i, i < n → (q i).sm) (hT : FnsAt L w n q a x) :
    Calls Tryz.prog 17 #[.slice a n cap] w fun e w' => (∃ B y, e = .returned (.slice (some ⟨B, 0, none⟩) n n) ∧ w.heap.size ≤ B ∧ FnsAt B w' n q (some ⟨B, 0, none⟩) y ∧ ∀ i, i < n → CapF (q i) (y i)) ∧ Below w.heap.size w w' := by
  have hQ : Hid (∀ i, i < n → (q i).sm) := hq
  have HT : Hid (FnsAt L w n q a x) := hT
  clear hT hq
  obtain ⟨c, hcs, hmk⟩ := make_fns n hn w
  have hR0 := rowOfC w c 45
  rw [hcs] at hR0
  have hB0 := below_alloc w (.cells c 45)
  go_enter Tryz.func17, Tryz.ntmps17
  go_wp2_with fail
  clear hmk
  go_loopw [4] (fun i wr => ∃ (k : Nat) (y : Nat → FA) (f : Nat → Value), k ≤ n ∧ i = .int .i64 k ∧ FnsIn wr w.heap.size k q y n f ∧ Below w.heap.size w wr) (fun i _ => n - (intOf i).toNat)
  case atStart => exact ⟨0, fun _ => default, _, Nat.zero_le _, rfl, ⟨hR0, fun m hm => by omega, fun i hi => by omega, fun i hi => by omega⟩, hB0⟩
  case round =>
    clear hR0 hB0 hcs
    obtain ⟨k, y, f, hk, rfl, hI, hB⟩ := hrel
    have HI : Hid (FnsIn wr w.heap.size k q y n f) := hI
    clear hI
    by_cases hkn : k < n
    · obtain ⟨b, off, rfl, _, hb, d0, d1, d2, d3, d4, d5, d6⟩ := cells7 (HT.out.1.below hB) hkn
      go_wp2_with fail
      refine (toFn_calls L (q k) (x k) wr (hQ.out k hkn) ((HT.out.2 k hkn).below hB)).mono ?_
      rintro e w2 ⟨⟨x', rfl, hx', hxc⟩, hb2⟩
      have HXC : Hid (CapF (q k) x') := hxc
      clear hxc
      have hlt := HI.out.row.lt
      replace HI := HI.out.call hb2
      have hX : Hid (FnAt (w.heap.size + 1) w2 (q k) x') := hx'.less (by have h1 := hb2.size; have h2 := hB.size; omega)
      replace hB := below_call hB hb2
      clear d0 d1 d2 d3 d4 d5 d6 hb2 hx'
      have g0 := HI.row.cell (i := k * 7) (by omega)
      have g1 := HI.row.cell (i := k * 7 + 1) (by omega)
      have g2 := HI.row.cell (i := k * 7 + 2) (by omega)
      have g3 := HI.row.cell (i := k * 7 + 3) (by omega)
      have g4 := HI.row.cell (i := k * 7 + 4) (by omega)
      have g5 := HI.row.cell (i := k * 7 + 5) (by omega)
      have g6 := HI.row.cell (i := k * 7 + 6) (by omega)
      have z := HI.row.frozen
      obtain ⟨y', f', hI2⟩ := HI.put x' hX.out HXC.out
      have HI2 : Hid _ := hI2
      clear HI hI2
      go_wp2_with fail
      go_roundw
      case rel => exact ⟨k + 1, y', f', by omega, by go_num, HI2.out, fr7 k _ _ _ _ _ _ _ hB⟩
      case measure => simp [intOf]; omega
    · go_wp2_with fail
      have : k = n := by omega
      subst this
      go_ret
      exact ⟨⟨_, y, rfl, Nat.le_refl _, ⟨rowK (fun _ _ => rfl) (HI.out.row.congr HI.out.cells), fun i hi => (HI.out.fns i hi).less (by omega)⟩, HI.out.caps⟩, hB⟩

set_option maxRecDepth 100000 in
set_option maxHeartbeats 4000000 in
theorem toUnit_calls (L : Nat) (d : UD) (a : Option Addr) (cap : Nat) (x : Nat → FA) (w : World) (hs : d.sm) (hT : FnsAt L w d.n d.fn a x) :
    Calls Tryz.prog 6 #[unV d a cap] w fun e w' => (∃ B y, e = .returned (unV d (some ⟨B, 0, none⟩) d.n) ∧ w.heap.size ≤ B ∧ FnsAt B w' d.n d.fn (some ⟨B, 0, none⟩) y ∧ ∀ i, i < d.n → CapF (d.fn i) (y i)) ∧ Below w.heap.size w w' := by
  have HT : Hid (FnsAt L w d.n d.fn a x) := hT
  have HS : Hid d.sm := hs
  clear hT hs
  go_enter Tryz.func6, Tryz.ntmps6
  go_wp2_with fail
  refine (toFnS_calls L _ _ _ d.fn x _ HS.out.n HS.out.fn (((HT.out.alloc _).alloc _).alloc _)).mono ?_
  rintro e w2 ⟨⟨B1, y, rfl, hB1, hI1, hC1⟩, hb2⟩
  have HC1 : Hid (∀ i, i < d.n → CapF (d.fn i) (y i)) := hC1
  clear hC1
  have HI1 : Hid (FnsAt B1 w2 d.n d.fn (some ⟨B1, 0, none⟩) y) := hI1
  have HB : Hid (Below w.heap.size w w2) := below_call (below_alloc3 _ _ _ _) hb2
  obtain ⟨hc2, hf2⟩ := bcell hb2
  have hz2 := hb2.size
  (try simp at hz2 hB1)
  have ha2 : w.heap.size < w2.heap.size := by omega
  have hb2' : w.heap.size + 1 < w2.heap.size := by omega
  have hc2' : w.heap.size + 1 + 1 < w2.heap.size := by omega
  clear hI1 hb2
  go_wp2_with fail
  refine bodyPost_ret (v := unV d (some ⟨B1, 0, none⟩) d.n) (by simp [results, Tryz.results6, go_sem, hc2]) rfl ⟨⟨B1, y, rfl, by omega, ?_, HC1.out⟩, ?_⟩
  · exact (HI1.out.set (p := ⟨w.heap.size + 1 + 1, 0, none⟩) (by show w.heap.size + 1 + 1 < _; omega) _).set (p := ⟨w.heap.size + 1, 0, none⟩) (by show w.heap.size + 1 < _; omega) _
  · exact frS (frS HB.out (Nat.le_add_right _ 2) _) (Nat.le_add_right _ 1) _
end Go.Proofs.YtcpjnddkibbddaaGreat

/-! The program's check of a unit: forms. -/
namespace Go.Proofs.YtcpjnddkibbddaaGreat
open Go.RowKit
attribute [local go_sem] run_store_float
attribute [local go_sem ↓] Go.wp_at_zero Go.wp_at_succ

def FormBad (u : UD) (f n : Nat) : Prop := shB (u.fn f).nd n = false
theorem bad3_yes {u : UD} {f n : Nat} (hf : f < u.n) (hn : n < (u.fn f).nn) (h3 : ∀ f', f' < f → ∀ n', n' < (u.fn f').nn → ¬ FormBad u f' n') (h4 : ∀ n', n' < n → ¬ FormBad u f n') (h5 : FormBad u f n) : Least (Bad3 u) ⟨3, f, n⟩ := At2.least (by decide) h3 h4 hf hn h5
theorem bad3_no {u : UD} (h2 : ∀ f', f' < u.n → ∀ n', n' < (u.fn f').nn → ¬ FormBad u f' n') : Least (Bad3 u) ft0 := Least.zero (At2.none h2)

set_option maxRecDepth 100000 in
set_option maxHeartbeats 4000000 in
theorem formFault_calls (L : Nat) (u : UD) (a : Option Addr) (cap : Nat) (fas : Nat → FA) (w : World) (hs : u.sm) (hz : SizeOk u) (hc : ∀ i, i < u.n → CapF (u.fn i) (fas i)) (hT : FnsAt L w u.n u.fn a fas) :
    Calls Tryz.prog 31 #[unV u a cap] w fun e w' => FtPost (Bad3 u) w e w' := by
  have HT : Hid (FnsAt L w u.n u.fn a fas) := hT
  have HS : Hid u.sm := hs
  have HZ : Hid (SizeOk u) := hz
  have HC : Hid (∀ i, i < u.n → CapF (u.fn i) (fas i)) := hc
  have hun := hz.2.1
  obtain ⟨b, off, e0, _, hb, _⟩ := cells7 hT.1 (show 0 < u.n from hz.1)
  subst e0
  clear hT hs hz hc
  have ez : Hid ((fxW w u (some ⟨b, off, none⟩) cap).heap.size = w.heap.size + 1 + 1) := by show _ = _; simp
  go_enter Tryz.func31, Tryz.ntmps31
  go_wp2_with (go_at_call 57; refine (newForms_calls _).mono ?_; rintro e w1 ⟨rfl, hw1⟩; have HB1 : Hid (Below (fxW w u (some ⟨b, off, none⟩) cap).heap.size (fxW w u (some ⟨b, off, none⟩) cap) w1) := (by show Below _ _ _; rw [hw1]; exact below_alloc _ _); have HF1 : Hid (∃ s, FRow w1 (w.heap.size + 1 + 1) s) := (by have h := FRow.new (fxW w u (some ⟨b, off, none⟩) cap); rw [← hw1, ez.out] at h; exact ⟨_, h⟩); have u0 := (fx_u HB1.out).cell 0 rfl; clear hw1)
  clear u0
  go_loopw [11] (fun i wr => ∃ (k : Nat), k ≤ u.n ∧ i = .int .i64 k ∧ Hid (∀ f', f' < k → ∀ n', n' < (u.fn f').nn → ¬ FormBad u f' n') ∧ Hid (Below (fxW w u (some ⟨b, off, none⟩) cap).heap.size (fxW w u (some ⟨b, off, none⟩) cap) wr) ∧ Hid (∃ s, FRow wr (w.heap.size + 1 + 1) s)) (fun i _ => u.n - (intOf i).toNat)
  case atStart => exact ⟨0, Nat.zero_le _, rfl, fun f' hf' => by omega, HB1, HF1⟩
  case round =>
    clear HB1 HF1
    obtain ⟨k, hk, rfl, HF, HB, HV⟩ := hrel
    by_cases hkn : k < u.n
    · have HTr : Hid (FnsAt L wr u.n u.fn (some ⟨b, off, none⟩) fas) := HT.out.below (fx_below HB.out)
      obtain ⟨b', off', e0, _, hbz, d0, d1, d2, d3, d4, d5, d6⟩ := cells7 HTr.out.1 hkn
      obtain ⟨rfl, rfl⟩ : b = b' ∧ off = off' := by simpa using e0
      clear e0
      have hnn : (u.fn k).nn ≤ 3000 := Nat.le_trans (tot_le u.fn u.n k hkn) HZ.out.2.2
      rename World => wa
      have hFw : w.heap.size + 1 + 1 < wa.heap.size := by obtain ⟨s, h⟩ := HV.out; exact World.rowIs.lt h
      have HX0 : Hid (Has (wa.alloc (.cells (fnC (u.fn k) (fas k)) 45)) wa.heap.size (fnC (u.fn k) (fas k))) := Has.new _ _ _
      have HB0 : Hid (Below (fxW w u (some ⟨b, off, none⟩) cap).heap.size (fxW w u (some ⟨b, off, none⟩) cap) (wa.alloc (.cells (fnC (u.fn k) (fas k)) 45))) := below_a' HB.out _
      have HV0 : Hid (∃ s, FRow (wa.alloc (.cells (fnC (u.fn k) (fas k)) 45)) (w.heap.size + 1 + 1) s) := by obtain ⟨s, h⟩ := HV.out; exact ⟨s, h.alloc _⟩
      go_wp2_with fail
      clear d0 d1 d2 d3 d4 d5 d6
      go_loopw [19] (fun i wr => ∃ (m : Nat), m ≤ (u.fn k).nn ∧ i = .int .i64 m ∧ Hid (∀ n', n' < m → ¬ FormBad u k n') ∧ Hid (Below (fxW w u (some ⟨b, off, none⟩) cap).heap.size (fxW w u (some ⟨b, off, none⟩) cap) wr) ∧ Hid (∃ s, FRow wr (w.heap.size + 1 + 1) s) ∧ Hid (Has wr wa.heap.size (fnC (u.fn k) (fas k)))) (fun i _ => (u.fn k).nn - (intOf i).toNat)
      case atStart => exact ⟨0, Nat.zero_le _, rfl, fun f' hf' => by omega, HB0, HV0, HX0⟩
      case round =>
        clear HB HV HTr HX0 HB0 HV0
        obtain ⟨m, hm, rfl, HN, HB, HV, HX⟩ := hrel
        by_cases hmn : m < (u.fn k).nn
        · have y6 : wr.cell? ⟨wa.heap.size, 6, none⟩ = some (.slice (fas k).na (u.fn k).nn (fas k).nc) := HX.out.cell 6 rfl
          obtain ⟨s, hs⟩ := HV.out
          have HC1 := (HC.out k hkn)
          have HN0 : Hid (NodesAt 0 (fxW w u (some ⟨b, off, none⟩) cap) (u.fn k).nn (u.fn k).nd (fas k).na (fas k).nas) := ((HT.out.below (fx_below (Below.refl _ _))).2 k hkn).2.2.less (Nat.zero_le _)
          have HFC : Hid (Calls Tryz.prog 58 #[.pointer (some ⟨w.heap.size + 1 + 1, 0, none⟩), .slice (fas k).na (u.fn k).nn (fas k).nc, .int .i64 m] wr fun e w' => FitPost (u.fn k).nd m (w.heap.size + 1 + 1) wr e w') := fits_calls (w.heap.size + 1 + 1) (u.fn k).nn (u.fn k).nd (fas k).na (fas k).nc (fas k).nas m s (fxW w u (some ⟨b, off, none⟩) cap) wr hmn (by omega) HC1.1 ((HS.out.fn k hkn).nd m hmn) (HC1.2 m hmn) HN0.out (Nat.le_of_eq ez.out) HB.out hs
          clear hs HC1 HN0
          cases hfb : fitB (u.fn k).nd m
          · have HL : Hid (Least (Bad3 u) ⟨3, k, m⟩) := bad3_yes hkn hmn HF.out HN.out (by show shB _ _ = false; rw [← fit_sh]; exact hfb)
            go_wp2_with (go_at_call 58; refine HFC.out.mono ?_; unfold FitPost; rw [hfb]; rintro e w8 ⟨rfl, hF8, hk8⟩; have HB8 : Hid (Below (fxW w u (some ⟨b, off, none⟩) cap).heap.size (fxW w u (some ⟨b, off, none⟩) cap) w8) := HB.out.trans (hk8.low.mono (Nat.le_of_eq ez.out)); have s0 := (fx_row HB8.out).cell (i := 0) (by omega); have s1 := (fx_row HB8.out).cell (i := 1) (by omega); have s2 := (fx_row HB8.out).cell (i := 2) (by omega); have sz := (fx_row HB8.out).frozen)
            refine bodyPost_ret (v := ftV ⟨3, k, m⟩) (by simp [results, Tryz.results31, go_sem, s0, s1, s2]) rfl ?_
            exact FtPost.of HL.out (fx_out (fx_below HB8.out) _ _ _)
          · have HG : Hid (¬ FormBad u k m) := by
              show ¬ (shB _ _ = false)
              rw [← fit_sh, hfb]
              simp
            go_wp2_with (go_at_call 58; refine HFC.out.mono ?_; unfold FitPost; rw [hfb]; rintro e w8 ⟨rfl, hF8, hk8⟩; have HV8 : Hid (∃ s, FRow w8 (w.heap.size + 1 + 1) s) := hF8; have HK8 : Hid (KB (w.heap.size + 1 + 1) wr w8) := hk8; clear hF8 hk8)
            have HB8 : Hid (Below (fxW w u (some ⟨b, off, none⟩) cap).heap.size (fxW w u (some ⟨b, off, none⟩) cap) w8) := HB.out.trans (HK8.out.low.mono (Nat.le_of_eq ez.out))
            have HX8 : Hid (Has w8 wa.heap.size (fnC (u.fn k) (fas k))) := HK8.out.has _ _ (by omega) HX.out
            go_roundw
            case rel => exact ⟨m + 1, by omega, by go_num, fun j hj => by
              by_cases e : j = m
              · subst e; exact HG.out
              · exact HN.out j (by omega), HB8, HV8, HX8⟩
            case measure => simp [intOf]; omega
        · obtain rfl : m = (u.fn k).nn := by omega
          go_wp2_with fail
          go_roundw
          case rel => exact ⟨k + 1, by omega, by go_num, fun j hj => by
            by_cases e : j = k
            · subst e; exact HN.out
            · exact HF.out j (by omega), HB, HV⟩
          case measure => simp [intOf]; omega
    · obtain rfl : k = u.n := by omega
      have HL : Hid (Least (Bad3 u) ⟨0, 0, 0⟩) := bad3_no HF.out
      have s0 := (fx_row HB.out).cell (i := 0) (by omega)
      have s1 := (fx_row HB.out).cell (i := 1) (by omega)
      have s2 := (fx_row HB.out).cell (i := 2) (by omega)
      have sz := (fx_row HB.out).frozen
      go_wp2_with fail
      refine bodyPost_ret (v := ftV ⟨0, 0, 0⟩) (by simp [results, Tryz.results31, go_sem, s0, s1, s2]) rfl ?_
      exact FtPost.of HL.out (fx_out (fx_below HB.out) _ _ _)
end Go.Proofs.YtcpjnddkibbddaaGreat

/-! The program's check of a unit: how deep it nests, given what depthsOf answers. -/
namespace Go.Proofs.YtcpjnddkibbddaaGreat
open Go.RowKit
attribute [local go_sem] run_store_float
attribute [local go_sem ↓] Go.wp_at_zero Go.wp_at_succ

def NestBig (u : UD) (f n : Nat) : Prop := 100 < depP (parP (u.fn f).nd (u.fn f).nn) (u.fn f).nn ((u.fn f).nn - 1) n
theorem bad5_yes {u : UD} {f n : Nat} (hf : f < u.n) (hn : n < (u.fn f).nn) (h3 : ∀ f', f' < f → ∀ n', n' < (u.fn f').nn → ¬ NestBig u f' n') (h4 : ∀ n', n' < n → ¬ NestBig u f n') (h5 : NestBig u f n) : Least (Bad5 u) ⟨5, f, n⟩ := At2.least (by decide) h3 h4 hf hn h5
theorem bad5_no {u : UD} (h2 : ∀ f', f' < u.n → ∀ n', n' < (u.fn f').nn → ¬ NestBig u f' n') : Least (Bad5 u) ft0 := Least.zero (At2.none h2)
/-- what depthsOf is to answer (not shown here) -/
def DepSays : Prop := ∀ (L : Nat) (d : FD) (x : FA) (w : World), d.nn ≤ 3000 → KidsIn d.nd d.nn → (∀ i, i < d.nn → (d.nd i).kn ≤ 200) → FnAt L w d x →
  Calls Tryz.prog 60 #[fnV d x] w fun e w' => (∃ B, e = .returned (.slice (some ⟨B, 0, none⟩) d.nn d.nn) ∧ w.heap.size ≤ B ∧ CRow w' B d.nn (nodesD d.nd d.nn d.nn)) ∧ Below w.heap.size w w'

set_option maxRecDepth 100000 in
set_option maxHeartbeats 4000000 in
theorem nestFault_of (hD : DepSays) (L : Nat) (u : UD) (a : Option Addr) (cap : Nat) (fas : Nat → FA) (w : World) (h5 : U5 u) (hT : FnsAt L w u.n u.fn a fas) :
    Calls Tryz.prog 33 #[unV u a cap] w fun e w' => FtPost (Bad5 u) w e w' := by
  have HD : Hid DepSays := hD
  have HT : Hid (FnsAt L w u.n u.fn a fas) := hT
  have H5 : Hid (U5 u) := h5
  have hun := h5.size.2.1
  obtain ⟨b, off, e0, _, hb, _⟩ := cells7 hT.1 (show 0 < u.n from h5.size.1)
  subst e0
  clear hT h5 hD
  go_enter Tryz.func33, Tryz.ntmps33
  go_wp2_with fail
  go_loopw [10] (fun i wr => ∃ (k : Nat), k ≤ u.n ∧ i = .int .i64 k ∧ Hid (∀ f', f' < k → ∀ n', n' < (u.fn f').nn → ¬ NestBig u f' n') ∧ Hid (Below (fxW w u (some ⟨b, off, none⟩) cap).heap.size (fxW w u (some ⟨b, off, none⟩) cap) wr)) (fun i _ => u.n - (intOf i).toNat)
  case atStart => exact ⟨0, Nat.zero_le _, rfl, fun f' hf' => by omega, Below.refl _ _⟩
  case round =>
    obtain ⟨k, hk, rfl, HF, HB⟩ := hrel
    by_cases hkn : k < u.n
    · have HTr : Hid (FnsAt L wr u.n u.fn (some ⟨b, off, none⟩) fas) := HT.out.below (fx_below HB.out)
      obtain ⟨b', off', e0, _, hbz, d0, d1, d2, d3, d4, d5, d6⟩ := cells7 HTr.out.1 hkn
      obtain ⟨rfl, rfl⟩ : b = b' ∧ off = off' := by simpa using e0
      clear e0
      have hnn := H5.out.toU3.nn hkn
      have HK2 : Hid (∀ i, i < (u.fn k).nn → ((u.fn k).nd i).kn ≤ 200) := fun i hi => (H5.out.toU3.facts hkn hi).kn
      rename World => wa
      go_wp2_with (go_at_call 60; refine (HD.out L (u.fn k) (fas k) _ hnn.1 (H5.out.toU3.kids hkn) HK2.out ((HTr.out.2 k hkn).alloc _)).mono ?_; rintro e w8 ⟨⟨B, rfl, hBz, hR⟩, hb8⟩; have HR8 : Hid (CRow w8 B (u.fn k).nn (nodesD (u.fn k).nd (u.fn k).nn (u.fn k).nn)) := hR; clear hR)
      clear d0 d1 d2 d3 d4 d5 d6
      have HB8 : Hid (Below (fxW w u (some ⟨b, off, none⟩) cap).heap.size (fxW w u (some ⟨b, off, none⟩) cap) w8) := below_call HB.out (below_call (below_alloc _ _) hb8)
      clear HB hb8 HTr hBz
      go_loopw [18] (fun i wr => ∃ (m : Nat), m ≤ (u.fn k).nn ∧ i = .int .i64 m ∧ Hid (∀ n', n' < m → ¬ NestBig u k n') ∧ wr = w8) (fun i _ => (u.fn k).nn - (intOf i).toNat)
      case atStart => exact ⟨0, Nat.zero_le _, rfl, fun f' hf' => by omega, rfl⟩
      case round =>
        obtain ⟨m, hm, rfl, HN, rfl⟩ := hrel
        by_cases hmn : m < (u.fn k).nn
        · have r0 := World.rowIs.cell HR8.out (i := m) hmn
          have hBw := World.rowIs.lt HR8.out
          have hds := dep_same (H5.out.tree k hkn) hmn
          have s0 := (fx_row HB8.out).cell (i := 0) (by omega)
          have s1 := (fx_row HB8.out).cell (i := 1) (by omega)
          have s2 := (fx_row HB8.out).cell (i := 2) (by omega)
          have sz := (fx_row HB8.out).frozen
          by_cases hp : 100 < nodesD (u.fn k).nd (u.fn k).nn (u.fn k).nn m
          · have HL : Hid (Least (Bad5 u) ⟨5, k, m⟩) := bad5_yes hkn hmn HF.out HN.out (by unfold NestBig; rw [← hds]; exact hp)
            clear hds
            go_wp2_with fail
            refine bodyPost_ret (v := ftV ⟨5, k, m⟩) (by simp [results, Tryz.results33, go_sem, s0, s1, s2]) rfl ?_
            exact FtPost.of HL.out (fx_out (fx_below HB8.out) _ _ _)
          · have HG : Hid (¬ NestBig u k m) := by
              show ¬ (100 < _)
              rw [← hds]
              exact hp
            clear hds
            go_wp2_with fail
            go_roundw
            case rel => exact ⟨m + 1, by omega, by go_num, fun j hj => by
              by_cases e : j = m
              · subst e; exact HG.out
              · exact HN.out j (by omega), by first | rfl | trivial⟩
            case measure => simp [intOf]; omega
        · obtain rfl : m = (u.fn k).nn := by omega
          go_wp2_with fail
          go_roundw
          case rel => exact ⟨k + 1, by omega, by go_num, fun j hj => by
            by_cases e : j = k
            · subst e; exact HN.out
            · exact HF.out j (by omega), HB8⟩
          case measure => simp [intOf]; omega
    · obtain rfl : k = u.n := by omega
      have HL : Hid (Least (Bad5 u) ⟨0, 0, 0⟩) := bad5_no HF.out
      have s0 := (fx_row HB.out).cell (i := 0) (by omega)
      have s1 := (fx_row HB.out).cell (i := 1) (by omega)
      have s2 := (fx_row HB.out).cell (i := 2) (by omega)
      have sz := (fx_row HB.out).frozen
      go_wp2_with fail
      refine bodyPost_ret (v := ftV ⟨0, 0, 0⟩) (by simp [results, Tryz.results33, go_sem, s0, s1, s2]) rfl ?_
      exact FtPost.of HL.out (fx_out (fx_below HB.out) _ _ _)
end Go.Proofs.YtcpjnddkibbddaaGreat
