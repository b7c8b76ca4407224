import Derived.Test.YtiidepafifodjabTabH
import Derived.Deep.RegionWith
import Derived.Deep.DrawnRows
import Derived.Deep.RegionHeld3
/-! Tables: impl.index. -/
namespace Go.Proofs.Ytiidepafifodjab
open Go.RowKit
attribute [local go_sem] run_store_float
attribute [local go_sem ↓] Go.wp_at_zero Go.wp_at_succ

/-- the turn ahead of place i -/
def lastT (q : Nat → PD) : Nat → Int
  | 0 => 0
  | i + 1 => (q i).turn
def rowOkB (q : Nat → PD) (t : Int) (i : Nat) : Bool := pOkB (q i) && decide (lastT q i < (q i).turn) && decide ((q i).turn ≤ t)
theorem below_a' {u w : World} {o : Obj} (h : Below (u.alloc o).heap.size (u.alloc o) w) : Below u.heap.size u w := below_call (below_alloc u o) h
theorem below_ix {u v w : World} (h1 : Below u.heap.size u v) (h2 : Below v.heap.size v w) : Below u.heap.size u w := below_call h1 h2
theorem ownsRow_mono {w : World} {b b' : Nat} {t : TypeId} {v : Value} {n : Nat} {xs : List Value} (h : w.ownsRow b t 11 v n xs) (hb : b' ≤ b) : w.ownsRow b' t 11 v n xs := by
  obtain ⟨h1, h2⟩ := h
  refine ⟨h1, ?_⟩
  rcases h2 with h2 | ⟨g, cap, cur, e, h3, r⟩
  · exact .inl h2
  · exact .inr ⟨g, cap, cur, e, Nat.le_trans hb h3, r⟩
theorem mapIs_drew {w : World} {b : Nat} {L : List (Mk × Nat)} (h : MapIs w b L) : MapIs w.drew b L := h
theorem own_set3 {w : World} {B : Nat} {b : Nat} {t : TypeId} {v : Value} {n : Nat} {xs : List Value} (h : w.ownsRow B t 11 v n xs) (hb : b < B) (hb1 : b + 1 < B) (x y z : Value) :
    (((w.setCell ⟨b + 1, 0, none⟩ x).setCell ⟨b + 1, 1, none⟩ y).setCell ⟨b + 1, 2, none⟩ z).ownsRow b t 11 v n xs :=
  ownsRow_mono (ownsRow_setCell_below (ownsRow_setCell_below (ownsRow_setCell_below h (a := ⟨b + 1, 0, none⟩) hb1 x) (a := ⟨b + 1, 1, none⟩) hb1 y) (a := ⟨b + 1, 2, none⟩) hb1 z) (Nat.le_of_lt hb)
theorem MapIs.setCell {w : World} {b : Nat} {L : List (Mk × Nat)} (h : MapIs w b L) {a : Addr} (hne : b ≠ a.block) (v : Value) : MapIs (w.setCell a v) b L := by
  obtain ⟨es, c, hb, e⟩ := h
  exact ⟨es, c, (Below.heap_setCell w a v b hne).trans hb, e⟩
theorem map_set3 {w : World} {b d : Nat} {L : List (Mk × Nat)} (h : MapIs w b L) (hne : b ≠ d) (x y z : Value) :
    MapIs (((w.setCell ⟨d, 0, none⟩ x).setCell ⟨d, 1, none⟩ y).setCell ⟨d, 2, none⟩ z) b L :=
  ((h.setCell (a := ⟨d, 0, none⟩) hne x).setCell (a := ⟨d, 1, none⟩) hne y).setCell (a := ⟨d, 2, none⟩) hne z
/-- a table that is valid -/
structure TabOk (n : Nat) (t : Int) (q : Nat → PD) : Prop where
  nn : n ≤ 500
  t0 : 0 ≤ t
  t1 : t ≤ 1000000000000
  row : ∀ i, i < n → rowOkB q t i = true
  key : ∀ i j, j < i → i < n → mk (q j).key ≠ mk (q i).key

abbrev xOf (s : Value) (m : Option Nat) (t : Int) : Value := .agg #[s, .map m, .int .i64 t]
abbrev xNo : Value := .tuple #[xOf (.slice none 0 0) none 0, .bool false]

def IndexSays (w : World) (n : Nat) (t : Int) (q : Nat → PD) (e : Ending) (w' : World) : Prop :=
  ((TabOk n t q ∧ ∃ a' cap' B, e = .returned (.tuple #[xOf (.slice a' n cap') (some B) t, .bool true]) ∧ w.heap.size ≤ B ∧ w'.ownsRow w.heap.size 48 11 (.slice a' n cap') n (cellsOf q n) ∧ MapIs w' B (places q n)) ∨
   (¬ TabOk n t q ∧ e = .returned xNo)) ∧ Below w.heap.size w w'

abbrev ixW (w : World) (a : Option Addr) (n cap : Nat) (t : Int) : World := (w.alloc (.cells #[.slice a n cap, .int .i64 t] 40)).alloc (.cells #[.slice none 0 0, .map none, .int .i64 0] 78)

theorem ix_cells {w : World} {a : Option Addr} {n cap : Nat} {t : Int} {wr : World} (hB : Below (ixW w a n cap t).heap.size (ixW w a n cap t) wr) :
    wr.cell? ⟨w.heap.size, 0, none⟩ = some (.slice a n cap) ∧ wr.cell? ⟨w.heap.size, 1, none⟩ = some (.int .i64 t) ∧
    wr.cell? ⟨w.heap.size + 1, 0, none⟩ = some (.slice none 0 0) ∧ wr.cell? ⟨w.heap.size + 1, 1, none⟩ = some (.map none) ∧ wr.cell? ⟨w.heap.size + 1, 2, none⟩ = some (.int .i64 0) ∧
    (∀ o, wr.frozen? ⟨w.heap.size + 1, o, none⟩ = false) ∧ w.heap.size < wr.heap.size ∧ w.heap.size + 1 < wr.heap.size := by
  have hs := hB.size
  simp at hs
  refine ⟨?_, ?_, ?_, ?_, ?_, ?_, by omega, by omega⟩
  · rw [hB.cell (by simp; try omega)]; simp
  · rw [hB.cell (by simp; try omega)]; simp
  · rw [hB.cell (by simp; try omega)]; simp
  · rw [hB.cell (by simp; try omega)]; simp
  · rw [hB.cell (by simp; try omega)]; simp
  · intro o; rw [hB.frozen (by simp)]; simp

set_option maxRecDepth 100000 in
set_option maxHeartbeats 8000000 in
theorem index_calls (a : Option Addr) (n cap : Nat) (t : Int) (q : Nat → PD) (w : World) (hn : n ≤ 1048576) (hq : ∀ i, i < n → (q i).wf) (hT : Tab w a n q) :
    Calls Try.prog 47 #[tOf a n cap t] w (IndexSays w n t q) := by
  have hQ : Hid (∀ i, i < n → (q i).wf) := hq
  have HT : Hid (Tab w a n q) := hT
  clear hq hT
  by_cases c1 : 500 < n
  · have hno : Hid (¬ TabOk n t q) := fun h => absurd h.nn (by omega)
    go_enter Try.func47, Try.ntmps47
    go_wp2_with fail
    exact bodyPost_ret (v := xNo) (by simp [results, Try.results47, go_sem]) rfl ⟨.inr ⟨hno.out, rfl⟩, below_alloc2 _ _ _⟩
  by_cases c2 : t < 0
  · have hno : Hid (¬ TabOk n t q) := fun h => absurd h.t0 (by omega)
    go_enter Try.func47, Try.ntmps47
    go_wp2_with fail
    exact bodyPost_ret (v := xNo) (by simp [results, Try.results47, go_sem]) rfl ⟨.inr ⟨hno.out, rfl⟩, below_alloc2 _ _ _⟩
  by_cases c3 : 1000000000000 < t
  · have hno : Hid (¬ TabOk n t q) := fun h => absurd h.t1 (by omega)
    go_enter Try.func47, Try.ntmps47
    go_wp2_with fail
    exact bodyPost_ret (v := xNo) (by simp [results, Try.results47, go_sem]) rfl ⟨.inr ⟨hno.out, rfl⟩, below_alloc2 _ _ _⟩
  · go_enter Try.func47, Try.ntmps47
    go_wp2_with fail
    go_loopw [4, 26] (fun l i wr => ∃ (k : Nat), k ≤ n ∧ i = .int .i64 k ∧ l = .int .i64 (lastT q k) ∧ (∀ i, i < k → rowOkB q t i = true) ∧ Below (ixW w a n cap t).heap.size (ixW w a n cap t) wr) (fun _ i _ => n - (intOf i).toNat)
    case atStart => exact ⟨0, Nat.zero_le _, rfl, rfl, fun i hi => by omega, Below.refl _ _⟩
    case round =>
      obtain ⟨k, hk, rfl, rfl, hok, hB⟩ := hrel
      have hOk : Hid (∀ i, i < k → rowOkB q t i = true) := hok
      clear hok
      obtain ⟨x0, x1, y0, y1, y2, yf, z0, z1⟩ := ix_cells hB
      have p1 : w.heap.size ≤ w.heap.size + 1 := Nat.le_add_right _ _
      by_cases hkn : k < n
      · obtain ⟨b, off, rfl, hb, hc⟩ := (HT.out.alloc (.cells #[.slice a n cap, .int .i64 t] 40)).alloc (.cells #[.slice none 0 0, .map none, .int .i64 0] 78) (by omega)
        have hc' : ∀ j, j < 11 → wr.cell? ⟨b, off + k * 11 + j, none⟩ = (pCells (q k))[j]? := fun j hj => (hB.cell (p := ⟨b, off + k * 11 + j, none⟩) hb).trans (hc k hkn j hj)
        have d0 := hc' 0 (by omega)
        have d1 := hc' 1 (by omega)
        have d2 := hc' 2 (by omega)
        have d3 := hc' 3 (by omega)
        have d4 := hc' 4 (by omega)
        have d5 := hc' 5 (by omega)
        have d6 := hc' 6 (by omega)
        have d7 := hc' 7 (by omega)
        have d8 := hc' 8 (by omega)
        have d9 := hc' 9 (by omega)
        have d10 := hc' 10 (by omega)
        simp only [List.getElem?_toArray, List.getElem?_cons_zero, List.getElem?_cons_succ, Nat.add_zero] at d0 d1 d2 d3 d4 d5 d6 d7 d8 d9 d10
        clear hc'
        clear hc
        go_wp2_with fail
        refine (pairOk_calls (q k) (hQ.out k hkn) _).mono ?_
        rintro e w2 ⟨rfl, hb2⟩
        obtain ⟨hc2, hf2⟩ := bcell hb2
        have hB2 := below_ix hB (below_a' (o := .cells (pCells (q k)) 48) hb2)
        have hz2 := hb2.size
        (try simp at hz2)
        have z2 : w.heap.size < w2.heap.size := by omega
        have z3 : w.heap.size + 1 < w2.heap.size := by omega
        have z4 : wr.heap.size < w2.heap.size := by omega
        have HB2 : Hid _ := hB2
        clear d0 d1 d2 d3 d4 d5 d6 d7 d8 d9 d10 hb2 hB2
        cases hp : pOkB (q k)
        · have hno : Hid (¬ TabOk n t q) := fun h => by have := h.row k hkn; simp [rowOkB, hp] at this
          go_wp2_with fail
          obtain ⟨_, _, v0, v1, v2, _, _, _⟩ := ix_cells HB2.out
          exact bodyPost_ret (v := xNo) (by simp [results, Try.results47, go_sem, v0, v1, v2]) rfl ⟨.inr ⟨hno.out, rfl⟩, st1 (st1 (st1 (below_call (below_alloc2 _ _ _) HB2.out) p1 _) p1 _) p1 _⟩
        by_cases g1 : (q k).turn ≤ lastT q k
        · have hno : Hid (¬ TabOk n t q) := fun h => by have := h.row k hkn; simp [rowOkB, hp] at this; omega
          go_wp2_with fail
          obtain ⟨_, _, v0, v1, v2, _, _, _⟩ := ix_cells HB2.out
          exact bodyPost_ret (v := xNo) (by simp [results, Try.results47, go_sem, v0, v1, v2]) rfl ⟨.inr ⟨hno.out, rfl⟩, st1 (st1 (st1 (below_call (below_alloc2 _ _ _) HB2.out) p1 _) p1 _) p1 _⟩
        by_cases g2 : t < (q k).turn
        · have hno : Hid (¬ TabOk n t q) := fun h => by have := h.row k hkn; simp [rowOkB, hp] at this; omega
          go_wp2_with fail
          obtain ⟨_, _, v0, v1, v2, _, _, _⟩ := ix_cells HB2.out
          exact bodyPost_ret (v := xNo) (by simp [results, Try.results47, go_sem, v0, v1, v2]) rfl ⟨.inr ⟨hno.out, rfl⟩, st1 (st1 (st1 (below_call (below_alloc2 _ _ _) HB2.out) p1 _) p1 _) p1 _⟩
        · have hro : Hid (rowOkB q t k = true) := by
            show rowOkB q t k = true
            simp [rowOkB, hp]; omega
          go_wp2_with fail
          go_roundw
          case rel => exact ⟨k + 1, by omega, by go_num, rfl, fun i hi => by
            by_cases hik : i = k
            · subst hik; exact hro.out
            · exact hOk.out i (by omega), HB2.out⟩
          case measure => simp [intOf]; omega
      · have : k = n := by omega
        subst this
        go_wp2_with fail
        have hTr := ((HT.out.alloc (.cells #[.slice a k cap, .int .i64 t] 40)).alloc (.cells #[.slice none 0 0, .map none, .int .i64 0] 78)).below hB
        refine (placesOf_calls a k cap q wr hn hTr).mono ?_
        rintro e w2 ⟨rfl, hM, hb2⟩
        have hT2 := hTr.below hb2
        have hB2 := below_ix hB hb2
        have hlen := fun ty => len_run Try.underlying76 hM ty
        have hMs : w.heap.size + 1 < wr.heap.size := z1
        have hMl := hM.lt
        have hBw := below_call (below_alloc2 _ _ _) hB2
        clear x0 x1 y0 y1 y2 yf z0 z1 hB hTr hb2
        obtain ⟨x0, x1, y0, y1, y2, yf, z0, z1⟩ := ix_cells hB2
        have HT2 : Hid (Tab w2 a k q) := hT2
        have HM : Hid (MapIs w2 wr.heap.size (places q k)) := hM
        clear hB2 hT2 hM
        by_cases hl : (places q k).length < k
        · have hno : Hid (¬ TabOk k t q) := fun h => by
            have := congrArg List.length (places_all q k h.key)
            simp at this; omega
          go_wp2_with fail
          exact bodyPost_ret (v := xNo) (by simp [results, Try.results47, go_sem, y0, y1, y2]) rfl ⟨.inr ⟨hno.out, rfl⟩, st1 (st1 (st1 hBw p1 _) p1 _) p1 _⟩
        · have hyes : Hid (TabOk k t q) := ⟨by omega, by omega, by omega, hOk.out, fun i j h1 h2 h3 => hl (places_dup q k ⟨i, j, h1, h2, h3⟩)⟩
          go_wp2_with fail
          go_region_with (go_at_call 76; refine (clone_calls a k cap q _ hn (by first | exact HT2.out | exact HT2.out.drew | exact HT2.out.drew.drew)).mono ?_; rintro e w3 ⟨⟨a', cap', rfl, ho⟩, hb3⟩; have X1 : w3.cell? ⟨w.heap.size, 1, none⟩ = some (.int .i64 t) := (hb3.cell (p := ⟨w.heap.size, 1, none⟩) z0).trans x1; have Y0 : w3.cell? ⟨w.heap.size + 1, 0, none⟩ = some (.slice none 0 0) := (hb3.cell (p := ⟨w.heap.size + 1, 0, none⟩) z1).trans y0; have Y1 : w3.cell? ⟨w.heap.size + 1, 1, none⟩ = some (.map none) := (hb3.cell (p := ⟨w.heap.size + 1, 1, none⟩) z1).trans y1; have Y2 : w3.cell? ⟨w.heap.size + 1, 2, none⟩ = some (.int .i64 0) := (hb3.cell (p := ⟨w.heap.size + 1, 2, none⟩) z1).trans y2; have YF : ∀ o, w3.frozen? ⟨w.heap.size + 1, o, none⟩ = false := fun o => (hb3.frozen (p := ⟨w.heap.size + 1, o, none⟩) z1).trans (yf o); have HM3 : Hid (MapIs w3 wr.heap.size (places q k)) := (by first | exact HM.out.below hb3 | exact (mapIs_drew HM.out).below hb3); have HO : Hid (w3.ownsRow w2.heap.size 48 11 (.slice a' k cap') k (cellsOf q k)) := ho; have HW : Hid (Below w.heap.size w w3) := (by first | exact below_call hBw hb3 | exact below_call hBw.drew hb3); clear ho hb3)
          all_goals go_wp2_with fail
          all_goals exact bodyPost_ret (v := .tuple #[xOf (.slice a' k cap') (some wr.heap.size) t, .bool true]) (by simp [results, Try.results47, go_sem, Y0, Y1, Y2]) rfl ⟨.inl ⟨hyes.out, a', cap', wr.heap.size, rfl, by omega, own_set3 HO.out z0 z1 _ _ _, map_set3 HM3.out (Nat.ne_of_gt hMs) _ _ _⟩, st1 (st1 (st1 HW.out p1 _) p1 _) p1 _⟩
end Go.Proofs.Ytiidepafifodjab
