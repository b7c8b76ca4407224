import Derived.Test.YtiidepafifodjaaDoorRpA
import Derived.Test.YtiidepafifodjaaDoorMkA
/-! Reports copied by the laws. -/
namespace Go.Proofs.YtiidepafifodjaaDoor
open Go.RowKit
attribute [local go_sem] run_store_float

theorem put5 {w : World} {B : Nat} {t : TypeId} {N : Nat} {f : Nat → Value} (h : w.rowIs B t N f) (k : Nat) (c : Nat → Array Value) (hf : ∀ m, m < k * 5 → f m = flK 5 c m) (v0 v1 v2 v3 v4 : Value) (c' : Nat → Array Value) (h1 : ∀ i, i < k → c' i = c i) (h2 : c' k = #[v0, v1, v2, v3, v4]) :
    ∃ f', (((((w.setCell ⟨B, k * 5, none⟩ v0).setCell ⟨B, k * 5 + 1, none⟩ v1).setCell ⟨B, k * 5 + 2, none⟩ v2).setCell ⟨B, k * 5 + 3, none⟩ v3).setCell ⟨B, k * 5 + 4, none⟩ v4).rowIs B t N f' ∧ ∀ m, m < (k + 1) * 5 → f' m = flK 5 c' m := by
  refine ⟨_, (((((h.set _ _).set _ _).set _ _).set _ _).set _ _), fun m hm => ?_⟩
  by_cases hlt : m < k * 5
  · have e : flK 5 c' m = flK 5 c m := by unfold flK; rw [h1 (m / 5) (by omega)]
    rw [e, ← hf m hlt]
    (repeat rw [if_neg (by omega)])
  · obtain ⟨j, rfl⟩ : ∃ j, m = k * 5 + j := ⟨m - k * 5, by omega⟩
    have hj : j < 5 := by omega
    rw [flK_at c' k j hj, h2]
    rcases (show j = 0 ∨ j = 1 ∨ j = 2 ∨ j = 3 ∨ j = 4 by omega) with rfl | rfl | rfl | rfl | rfl <;> simp
theorem fr5 {w u : World} {B : Nat} (k : Nat) (v0 v1 v2 v3 v4 : Value) (hb : Below B u w) : Below B u (((((w.setCell ⟨B, k * 5, none⟩ v0).setCell ⟨B, k * 5 + 1, none⟩ v1).setCell ⟨B, k * 5 + 2, none⟩ v2).setCell ⟨B, k * 5 + 3, none⟩ v3).setCell ⟨B, k * 5 + 4, none⟩ v4) := frS (frS (frS (frS (frS hb (Nat.le_refl _) _) (Nat.le_refl _) _) (Nat.le_refl _) _) (Nat.le_refl _) _) (Nat.le_refl _) _

set_option maxRecDepth 100000 in
set_option maxHeartbeats 2000000 in
theorem toRec_calls (d : RcD) (w : World) :
    Calls Tryd.prog 38 #[rcV d] w fun e w' => e = .returned (rcV d) ∧ Below w.heap.size w w' := by
  go_enter Tryd.func38, Tryd.ntmps38
  go_wp2_with fail
  refine bodyPost_ret (v := rcV d) (by simp [results, Tryd.results38, go_sem]) rfl ⟨rfl, ?_⟩
  exact below_alloc3 _ _ _ _

theorem infoRec : (Tryd.prog.info? 49).map (fun i => (i.zero, i.size, i.bytes)) = some (some (.agg #[.int .i64 0, .int .i64 0, .int .i64 0, .int .i64 0, .string ⟨#[]⟩]), 5, 48) := by kernel_rfl
theorem make_recs (n : Nat) (hn : n ≤ 1048576) (w : World) : ∃ c : Array Value, c.size = n * 5 ∧ (Instr.makeSlice 29 (.int .i64 (n : Int)) (.int .i64 (n : Int))).run Tryd.prog w = .ok (.slice (some ⟨w.heap.size, 0, none⟩) n n) (w.alloc (.cells c 49)) := by
  obtain ⟨i, hi, hzz⟩ := Option.map_eq_some_iff.1 infoRec
  simp only [Prod.mk.injEq] at hzz
  obtain ⟨hz, hs, hb⟩ := hzz
  have hr := run_make (P := Tryd.prog) (w := w) 29 49 i _ Tryd.underlying29 hi hz .i64 .i64 n n (by omega) (Int.le_refl _) (by rw [hb]; omega) (by omega)
  simp only [Int.toNat_natCast, hs] at hr
  exact ⟨_, size_madeCells _ _, hr⟩

set_option maxRecDepth 100000 in
set_option maxHeartbeats 4000000 in
theorem toRecS_calls (L : Nat) (a : Option Addr) (n cap : Nat) (q : Nat → RcD) (w : World) (hn : n ≤ 1048576) (hT : RcsAt L w a n q) :
    Calls Tryd.prog 21 #[.slice a n cap] w fun e w' => (∃ B, e = .returned (.slice (some ⟨B, 0, none⟩) n n) ∧ w.heap.size ≤ B ∧ Zf w' B ∧ RcsAt B w' (some ⟨B, 0, none⟩) n q) ∧ Below w.heap.size w w' := by
  have HT : Hid (RcsAt L w a n q) := hT
  clear hT
  obtain ⟨c, hcs, hmk⟩ := make_recs n hn w
  have hR0 := rowOfC w c 49
  rw [hcs] at hR0
  have hB0 := below_alloc w (.cells c 49)
  go_enter Tryd.func21, Tryd.ntmps21
  go_wp2_with fail
  clear hmk
  go_loopw [4] (fun i wr => ∃ (k : Nat) (f : Nat → Value), k ≤ n ∧ i = .int .i64 k ∧ wr.rowIs w.heap.size 49 (n * 5) f ∧ (∀ m, m < k * 5 → f m = flK 5 (fun i => rcC (q i)) m) ∧ Below w.heap.size w wr) (fun i _ => n - (intOf i).toNat)
  case atStart => exact ⟨0, _, Nat.zero_le _, rfl, hR0, fun m hm => by omega, hB0⟩
  case round =>
    clear hR0 hB0 hcs
    obtain ⟨k, f, hk, rfl, hR, hf, hB⟩ := hrel
    by_cases hkn : k < n
    · obtain ⟨b, off, rfl, _, hb, d0, d1, d2, d3, d4⟩ := cellsR (RowN.below HT.out hB) hkn
      go_wp2_with fail
      refine (toRec_calls (q k) wr).mono ?_
      rintro e w2 ⟨rfl, hb2⟩
      have hR2 := hR.of_block (hb2.block _ hR.lt)
      replace hB := below_call hB hb2
      clear d0 d1 d2 d3 d4 hb2 hR
      have g0 := hR2.cell (i := k * 5) (by omega)
      have g1 := hR2.cell (i := k * 5 + 1) (by omega)
      have g2 := hR2.cell (i := k * 5 + 2) (by omega)
      have g3 := hR2.cell (i := k * 5 + 3) (by omega)
      have g4 := hR2.cell (i := k * 5 + 4) (by omega)
      have z := hR2.frozen
      obtain ⟨f', hR3, hf'⟩ := put5 hR2 k _ hf (.int .i64 (q k).k) (.int .i64 (q k).t) (.int .i64 (q k).f) (.int .i64 (q k).l) (.string (q k).s) _ (fun _ _ => rfl) rfl
      have HR : Hid _ := hR3
      have HF : Hid _ := hf'
      clear hR2 hR3 hf hf'
      go_wp2_with fail
      go_roundw
      case rel => exact ⟨k + 1, f', by omega, by go_num, HR.out, HF.out, fr5 k _ _ _ _ _ hB⟩
      case measure => simp [intOf]; omega
    · go_wp2_with fail
      have : k = n := by omega
      subst this
      go_ret
      exact ⟨⟨_, rfl, Nat.le_refl _, Zf.of hR, rowK (fun _ _ => rfl) (hR.congr hf)⟩, hB⟩

theorem below7 {B : Nat} {u w : World} (h : Below B u w) {b : Nat} (hp : B ≤ b) (v0 v1 v2 v3 v4 v5 v6 : Value) : Below B u (((((((w.setCell ⟨b, 0, none⟩ v0).setCell ⟨b, 1, none⟩ v1).setCell ⟨b, 2, none⟩ v2).setCell ⟨b, 3, none⟩ v3).setCell ⟨b, 4, none⟩ v4).setCell ⟨b, 5, none⟩ v5).setCell ⟨b, 6, none⟩ v6) := frS (frS (frS (frS (frS (frS (frS h hp _) hp _) hp _) hp _) hp _) hp _) hp _
theorem RpAt.sets7 {L : Nat} {w : World} {d : RpD} {x : RpX} (h : RpAt L w d x) {b : Nat} (hp : b < L) (v0 v1 v2 v3 v4 v5 v6 : Value) : RpAt L (((((((w.setCell ⟨b, 0, none⟩ v0).setCell ⟨b, 1, none⟩ v1).setCell ⟨b, 2, none⟩ v2).setCell ⟨b, 3, none⟩ v3).setCell ⟨b, 4, none⟩ v4).setCell ⟨b, 5, none⟩ v5).setCell ⟨b, 6, none⟩ v6) d x :=
  ((((((h.set (p := ⟨b, 0, none⟩) hp v0).set (p := ⟨b, 1, none⟩) hp v1).set (p := ⟨b, 2, none⟩) hp v2).set (p := ⟨b, 3, none⟩) hp v3).set (p := ⟨b, 4, none⟩) hp v4).set (p := ⟨b, 5, none⟩) hp v5).set (p := ⟨b, 6, none⟩) hp v6
theorem Zf.sets7 {w : World} {B : Nat} (h : Zf w B) (b : Nat) (v0 v1 v2 v3 v4 v5 v6 : Value) : Zf (((((((w.setCell ⟨b, 0, none⟩ v0).setCell ⟨b, 1, none⟩ v1).setCell ⟨b, 2, none⟩ v2).setCell ⟨b, 3, none⟩ v3).setCell ⟨b, 4, none⟩ v4).setCell ⟨b, 5, none⟩ v5).setCell ⟨b, 6, none⟩ v6) B := ((((((h.set _ _).set _ _).set _ _).set _ _).set _ _).set _ _).set _ _
/-- its lists can be written into -/
def RpZ (w : World) (x : RpX) : Prop := ∃ b1 b2, x.ra = some ⟨b1, 0, none⟩ ∧ x.va = some ⟨b2, 0, none⟩ ∧ Zf w b1 ∧ Zf w b2
theorem RpZ.below {w w' : World} {x : RpX} (h : RpZ w x) (hb : Below w.heap.size w w') : RpZ w' x := by
  obtain ⟨b1, b2, e1, e2, h1, h2⟩ := h
  exact ⟨b1, b2, e1, e2, h1.below hb, h2.below hb⟩

set_option maxRecDepth 100000 in
set_option maxHeartbeats 4000000 in
theorem toReport_calls (L : Nat) (d : RpD) (x : RpX) (w : World) (hs : d.sm) (hT : RpAt L w d x) :
    Calls Tryd.prog 7 #[rpV d x] w fun e w' => (∃ x', e = .returned (rpV d x') ∧ RpAt w.heap.size w' d x' ∧ RpZ w' x') ∧ Below w.heap.size w w' := by
  have HT : Hid (RpAt L w d x) := hT
  have HS : Hid d.sm := hs
  clear hT hs
  have p1 : w.heap.size ≤ w.heap.size + 1 := Nat.le_add_right _ _
  have p2 : w.heap.size ≤ w.heap.size + 1 + 1 := Nat.le_add_right _ 2
  go_enter Tryd.func7, Tryd.ntmps7
  go_wp2_with fail
  refine (toRecS_calls L _ _ _ d.rc _ HS.out.n (((HT.out.alloc _).alloc _).alloc _).1).mono ?_
  rintro e w2 ⟨⟨B1, rfl, hB1, hZ1, hI1⟩, hb2⟩
  have HZ1 : Hid (Zf w2 B1) := hZ1
  have HI1 : Hid (RcsAt B1 w2 (some ⟨B1, 0, none⟩) d.n d.rc) := hI1
  have HB : Hid (Below w.heap.size w w2) := below_call (below_alloc3 _ _ _ _) hb2
  obtain ⟨hc2, hf2⟩ := bcell hb2
  have hz2 := hb2.size
  (try simp at hz2 hB1)
  have ha2 : w.heap.size < w2.heap.size := by omega
  have hb2' : w.heap.size + 1 < w2.heap.size := by omega
  have hc2' : w.heap.size + 1 + 1 < w2.heap.size := by omega
  clear hI1 hb2 hZ1
  have HB2 : Hid (Below w.heap.size w (w2.setCell ⟨w.heap.size + 1 + 1, 1, none⟩ (.slice (some ⟨B1, 0, none⟩) d.n d.n))) := frS HB.out p2 _
  go_wp2_with fail
  refine (toStringS_callsZ L _ _ _ d.v _ HS.out.m (HT.out.below HB2.out).2).mono ?_
  rintro e w3 ⟨⟨B2, rfl, hB2, hZ2, hI2⟩, hb3⟩
  have HZ2 : Hid (Zf w3 B2) := hZ2
  have HI2 : Hid (RowN 1 B2 w3 (some ⟨B2, 0, none⟩) d.m fun i => #[.string (d.v i)]) := hI2
  replace HI1 : Hid (RcsAt B1 w3 (some ⟨B1, 0, none⟩) d.n d.rc) := RowN.below (RowN.set HI1.out (p := ⟨w.heap.size + 1 + 1, 1, none⟩) (by show w.heap.size + 1 + 1 < B1; omega) _) hb3
  replace HZ1 : Hid (Zf w3 B1) := (HZ1.out.set _ _).below hb3
  replace HB : Hid (Below w.heap.size w w3) := below_call HB2.out hb3
  obtain ⟨hc3, hf3⟩ := bcell hb3
  have hz3 := hb3.size
  (try simp at hz3 hB2)
  have ha3 : w.heap.size < w3.heap.size := by omega
  have hb3' : w.heap.size + 1 < w3.heap.size := by omega
  have hc3' : w.heap.size + 1 + 1 < w3.heap.size := by omega
  clear hb3 hI2 HB2 hZ2
  go_wp2_with fail
  refine bodyPost_ret (v := rpV d ⟨some ⟨B1, 0, none⟩, d.n, some ⟨B2, 0, none⟩, d.m⟩) (by simp [results, Tryd.results7, go_sem, hc3, hc2, hb2']) rfl ⟨⟨_, rfl, ?_, ?_⟩, ?_⟩
  · have h0 : RpAt (w.heap.size + 1 + 1 + 1) w3 d ⟨some ⟨B1, 0, none⟩, d.n, some ⟨B2, 0, none⟩, d.m⟩ := ⟨RowN.less HI1.out (by omega), RowN.less HI2.out (by omega)⟩
    exact ((((((h0.set (p := ⟨w.heap.size + 1 + 1, 2, none⟩) (by show w.heap.size + 1 + 1 < _; omega) _).set (p := ⟨w.heap.size + 1 + 1, 3, none⟩) (by show w.heap.size + 1 + 1 < _; omega) _).set (p := ⟨w.heap.size + 1 + 1, 4, none⟩) (by show w.heap.size + 1 + 1 < _; omega) _).set (p := ⟨w.heap.size + 1 + 1, 5, none⟩) (by show w.heap.size + 1 + 1 < _; omega) _).set (p := ⟨w.heap.size + 1 + 1, 6, none⟩) (by show w.heap.size + 1 + 1 < _; omega) _).sets7 (by omega) _ _ _ _ _ _ _).less (by omega)
  · exact ⟨B1, B2, rfl, rfl, (((((HZ1.out.set _ _).set _ _).set _ _).set _ _).set _ _).sets7 _ _ _ _ _ _ _ _, (((((HZ2.out.set _ _).set _ _).set _ _).set _ _).set _ _).sets7 _ _ _ _ _ _ _ _⟩
  · exact below7 (frS (frS (frS (frS (frS HB.out p2 _) p2 _) p2 _) p2 _) p2 _) p1 _ _ _ _ _ _ _
end Go.Proofs.YtiidepafifodjaaDoor
