import Derived.Test.YtcpjnddkibbddaaGreatUnC
import Derived.Test.YtcpjnddkibbddaaGreatHdA
import Derived.Deep.DeepCutAuto
/-! The specification's check of a unit: parents and depths. -/
namespace Go.Proofs.YtcpjnddkibbddaaGreat
open Go.RowKit
attribute [local go_sem] run_store_float
attribute [local go_sem ↓] Go.wp_at_zero Go.wp_at_succ

/-- a new row at the heap's end, and what stands there behind it -/
theorem rowAt (w : World) (c : Array Value) (t : TypeId) {b n : Nat} {f : Nat → Value} (hb : b = w.heap.size) (hn : c.size = n) (hf : ∀ i, i < n → c[i]? = some (f i)) : (w.alloc (.cells c t)).rowIs b t n f := by
  subst hb hn
  exact World.rowIs_alloc w c t _ hf
theorem rowMade (w : World) (z : Value) (t : TypeId) {b n : Nat} (hb : b = w.heap.size) : (w.alloc (.cells (madeCells #[z] n) t)).rowIs b t n (fun _ => z) := by
  subst hb
  exact World.rowIs_made w z n t

/-- two cells -/
def two (x y : Value) (i : Nat) : Value := if i = 0 then x else y
theorem rowTwo (w : World) (x y : Value) (t : TypeId) {b : Nat} (hb : b = w.heap.size) : (w.alloc (.cells #[x, y] t)).rowIs b t 2 (two x y) :=
  rowAt w #[x, y] t hb rfl fun i hi => by
    rcases (show i = 0 ∨ i = 1 by omega) with rfl | rfl <;> rfl

/-- what l3grow has made: its result R, t at T, the rows P and D -/
structure GS (w0 : World) (n T P D : Nat) (p d : Nat → Int) (w : World) : Prop where
  fr : Below w0.heap.size w0 w
  tlo : w0.heap.size < T
  plo : w0.heap.size < P
  dlo : w0.heap.size < D
  tp : T ≠ P
  td : T ≠ D
  pd : P ≠ D
  r : w.rowIs w0.heap.size 79 2 (two (.slice none 0 0) (.slice none 0 0))
  t : w.rowIs T 79 2 (two (.slice (some ⟨P, 0, none⟩) n n) (.slice (some ⟨D, 0, none⟩) n n))
  p : w.rowIs P 3 n (fun i => .int .i64 (p i))
  d : w.rowIs D 3 n (fun i => .int .i64 (d i))

theorem GS.drew {w0 : World} {n T P D : Nat} {p d : Nat → Int} {w : World} (h : GS w0 n T P D p d w) : GS w0 n T P D p d w.drew := ⟨h.fr.drew, h.tlo, h.plo, h.dlo, h.tp, h.td, h.pd, h.r.drew, h.t.drew, h.p.drew, h.d.drew⟩
theorem GS.setP {w0 : World} {n T P D : Nat} {p d : Nat → Int} {w : World} (h : GS w0 n T P D p d w) (k : Nat) (v : Int) : GS w0 n T P D (fun i => if i = k then v else p i) d (w.setCell ⟨P, k, none⟩ (.int .i64 v)) :=
  ⟨h.fr.setCell (p := ⟨P, k, none⟩) (Nat.le_of_lt h.plo) _, h.tlo, h.plo, h.dlo, h.tp, h.td, h.pd, h.r.setOther (by show w0.heap.size ≠ P; have := h.plo; omega) _, h.t.setOther (fun e => h.tp e) _, (h.p.set k _).congr fun i _ => by split <;> rfl, h.d.setOther (fun e => h.pd e.symm) _⟩
theorem GS.setD {w0 : World} {n T P D : Nat} {p d : Nat → Int} {w : World} (h : GS w0 n T P D p d w) (k : Nat) (v : Int) : GS w0 n T P D p (fun i => if i = k then v else d i) (w.setCell ⟨D, k, none⟩ (.int .i64 v)) :=
  ⟨h.fr.setCell (p := ⟨D, k, none⟩) (Nat.le_of_lt h.dlo) _, h.tlo, h.plo, h.dlo, h.tp, h.td, h.pd, h.r.setOther (by show w0.heap.size ≠ D; have := h.dlo; omega) _, h.t.setOther (fun e => h.td e) _, h.p.setOther (fun e => h.pd e) _, (h.d.set k _).congr fun i _ => by split <;> rfl⟩
theorem GS.congrP {w0 : World} {n T P D : Nat} {p p' d : Nat → Int} {w : World} (h : GS w0 n T P D p d w) (e : ∀ i, i < n → p i = p' i) : GS w0 n T P D p' d w :=
  ⟨h.fr, h.tlo, h.plo, h.dlo, h.tp, h.td, h.pd, h.r, h.t, h.p.congr fun i hi => by rw [e i hi], h.d⟩

theorem gs123 (w : World) (n : Nat) : GS w n (w.heap.size + 1) (w.heap.size + 1 + 1) (w.heap.size + 1 + 1 + 1) (fun _ => 0) (fun _ => 0) ((((w.alloc (.cells #[.slice none 0 0, .slice none 0 0] 79)).alloc (.cells #[.slice (some ⟨w.heap.size + 1 + 1, 0, none⟩) n n, .slice (some ⟨w.heap.size + 1 + 1 + 1, 0, none⟩) n n] 79)).alloc (.cells (madeCells #[.int .i64 0] n) 3)).alloc (.cells (madeCells #[.int .i64 0] n) 3)).drew :=
  ⟨((((below_alloc _ _).alloc (by simp) _).alloc (by simp; omega) _).alloc (by simp; omega) _).drew, by omega, by omega, by omega, by omega, by omega, by omega, ((((rowTwo _ _ _ _ rfl).alloc _).alloc _).alloc _).drew, (((rowTwo _ _ _ _ (by simp)).alloc _).alloc _).drew, ((rowMade _ _ _ (by simp)).alloc _).drew, (rowMade _ _ _ (by simp)).drew⟩
theorem gs132 (w : World) (n : Nat) : GS w n (w.heap.size + 1) (w.heap.size + 1 + 1 + 1) (w.heap.size + 1 + 1) (fun _ => 0) (fun _ => 0) ((((w.alloc (.cells #[.slice none 0 0, .slice none 0 0] 79)).alloc (.cells #[.slice (some ⟨w.heap.size + 1 + 1 + 1, 0, none⟩) n n, .slice (some ⟨w.heap.size + 1 + 1, 0, none⟩) n n] 79)).alloc (.cells (madeCells #[.int .i64 0] n) 3)).alloc (.cells (madeCells #[.int .i64 0] n) 3)).drew :=
  ⟨((((below_alloc _ _).alloc (by simp) _).alloc (by simp; omega) _).alloc (by simp; omega) _).drew, by omega, by omega, by omega, by omega, by omega, by omega, ((((rowTwo _ _ _ _ rfl).alloc _).alloc _).alloc _).drew, (((rowTwo _ _ _ _ (by simp)).alloc _).alloc _).drew, (rowMade _ _ _ (by simp)).drew, ((rowMade _ _ _ (by simp)).alloc _).drew⟩
theorem gs213 (w : World) (n : Nat) : GS w n (w.heap.size + 1 + 1) (w.heap.size + 1) (w.heap.size + 1 + 1 + 1) (fun _ => 0) (fun _ => 0) ((((w.alloc (.cells #[.slice none 0 0, .slice none 0 0] 79)).alloc (.cells (madeCells #[.int .i64 0] n) 3)).alloc (.cells #[.slice (some ⟨w.heap.size + 1, 0, none⟩) n n, .slice (some ⟨w.heap.size + 1 + 1 + 1, 0, none⟩) n n] 79)).alloc (.cells (madeCells #[.int .i64 0] n) 3)).drew :=
  ⟨((((below_alloc _ _).alloc (by simp) _).alloc (by simp; omega) _).alloc (by simp; omega) _).drew, by omega, by omega, by omega, by omega, by omega, by omega, ((((rowTwo _ _ _ _ rfl).alloc _).alloc _).alloc _).drew, ((rowTwo _ _ _ _ (by simp)).alloc _).drew, (((rowMade _ _ _ (by simp)).alloc _).alloc _).drew, (rowMade _ _ _ (by simp)).drew⟩
theorem gs231 (w : World) (n : Nat) : GS w n (w.heap.size + 1 + 1) (w.heap.size + 1 + 1 + 1) (w.heap.size + 1) (fun _ => 0) (fun _ => 0) ((((w.alloc (.cells #[.slice none 0 0, .slice none 0 0] 79)).alloc (.cells (madeCells #[.int .i64 0] n) 3)).alloc (.cells #[.slice (some ⟨w.heap.size + 1 + 1 + 1, 0, none⟩) n n, .slice (some ⟨w.heap.size + 1, 0, none⟩) n n] 79)).alloc (.cells (madeCells #[.int .i64 0] n) 3)).drew :=
  ⟨((((below_alloc _ _).alloc (by simp) _).alloc (by simp; omega) _).alloc (by simp; omega) _).drew, by omega, by omega, by omega, by omega, by omega, by omega, ((((rowTwo _ _ _ _ rfl).alloc _).alloc _).alloc _).drew, ((rowTwo _ _ _ _ (by simp)).alloc _).drew, (rowMade _ _ _ (by simp)).drew, (((rowMade _ _ _ (by simp)).alloc _).alloc _).drew⟩
theorem gs312 (w : World) (n : Nat) : GS w n (w.heap.size + 1 + 1 + 1) (w.heap.size + 1) (w.heap.size + 1 + 1) (fun _ => 0) (fun _ => 0) ((((w.alloc (.cells #[.slice none 0 0, .slice none 0 0] 79)).alloc (.cells (madeCells #[.int .i64 0] n) 3)).alloc (.cells (madeCells #[.int .i64 0] n) 3)).alloc (.cells #[.slice (some ⟨w.heap.size + 1, 0, none⟩) n n, .slice (some ⟨w.heap.size + 1 + 1, 0, none⟩) n n] 79)).drew :=
  ⟨((((below_alloc _ _).alloc (by simp) _).alloc (by simp; omega) _).alloc (by simp; omega) _).drew, by omega, by omega, by omega, by omega, by omega, by omega, ((((rowTwo _ _ _ _ rfl).alloc _).alloc _).alloc _).drew, (rowTwo _ _ _ _ (by simp)).drew, (((rowMade _ _ _ (by simp)).alloc _).alloc _).drew, ((rowMade _ _ _ (by simp)).alloc _).drew⟩
theorem gs321 (w : World) (n : Nat) : GS w n (w.heap.size + 1 + 1 + 1) (w.heap.size + 1 + 1) (w.heap.size + 1) (fun _ => 0) (fun _ => 0) ((((w.alloc (.cells #[.slice none 0 0, .slice none 0 0] 79)).alloc (.cells (madeCells #[.int .i64 0] n) 3)).alloc (.cells (madeCells #[.int .i64 0] n) 3)).alloc (.cells #[.slice (some ⟨w.heap.size + 1 + 1, 0, none⟩) n n, .slice (some ⟨w.heap.size + 1, 0, none⟩) n n] 79)).drew :=
  ⟨((((below_alloc _ _).alloc (by simp) _).alloc (by simp; omega) _).alloc (by simp; omega) _).drew, by omega, by omega, by omega, by omega, by omega, by omega, ((((rowTwo _ _ _ _ rfl).alloc _).alloc _).alloc _).drew, (rowTwo _ _ _ _ (by simp)).drew, ((rowMade _ _ _ (by simp)).alloc _).drew, (((rowMade _ _ _ (by simp)).alloc _).alloc _).drew⟩

/-- the cells that one step of the depths reads -/
abbrev GR (T P D n i k : Nat) (dk : Int) (w' : World) : Prop := w'.cell? ⟨T, 0, none⟩ = some (.slice (some ⟨P, 0, none⟩) n n) ∧ w'.cell? ⟨T, 1, none⟩ = some (.slice (some ⟨D, 0, none⟩) n n) ∧ w'.cell? ⟨P, i, none⟩ = some (.int .i64 (k : Int)) ∧ w'.cell? ⟨D, k, none⟩ = some (.int .i64 dk)
theorem gr_drew {T P D n i k : Nat} {dk : Int} {w' : World} (h : GR T P D n i k dk w') : GR T P D n i k dk w'.drew := h

set_option maxRecDepth 100000 in
set_option maxHeartbeats 4000000 in
theorem l3grow_calls (L : Nat) (n : Nat) (nd : Nat → ND) (a : Option Addr) (cap : Nat) (nas : Nat → NA) (w : World) (hn : n ≤ 3000) (h0 : 0 < n) (hK : KidsIn nd n) (hS : ∀ i, i < n → (nd i).sm) (hT : NodesAt L w n nd a nas) :
    Calls Tryz.prog 48 #[.slice a n cap] w fun e w' => (∃ P D, e = .returned (.agg #[.slice (some ⟨P, 0, none⟩) n n, .slice (some ⟨D, 0, none⟩) n n]) ∧ w.heap.size ≤ P ∧ w.heap.size ≤ D ∧ w'.rowIs P 3 n (fun i => .int .i64 (parP nd n i)) ∧ w'.rowIs D 3 n (fun i => .int .i64 (depP (parP nd n) n (n - 1) i))) ∧ Below w.heap.size w w' := by
  have HK : Hid (KidsIn nd n) := hK
  have HS : Hid (∀ i, i < n → (nd i).sm) := hS
  clear hK hS
  have HT : Hid (NodesAt L w n nd a nas) := hT
  clear hT
  have hmk := fun v => run_make_row' (P := Tryz.prog) 26 3 (.int .i64 0) 8 Tryz.underlying26 infoInt rfl .i64 .i64 n (by omega) (by omega) v
  go_enter Tryz.func48, Tryz.ntmps48
  go_upto_region 1 with fail
  go_cut [3] (fun s3 wc => ∃ T P D, s3 = .pointer (some ⟨T, 0, none⟩) ∧ GS w n T P D (fun _ => 0) (fun _ => 0) wc)
  case first =>
    go_region_with fail
    all_goals go_wp2_with fail
    all_goals go_meet
    all_goals first | (with_reducible exact ⟨_, _, _, rfl, gs123 w n⟩) | (with_reducible exact ⟨_, _, _, rfl, gs132 w n⟩) | (with_reducible exact ⟨_, _, _, rfl, gs213 w n⟩) | (with_reducible exact ⟨_, _, _, rfl, gs231 w n⟩) | (with_reducible exact ⟨_, _, _, rfl, gs312 w n⟩) | (with_reducible exact ⟨_, _, _, rfl, gs321 w n⟩)
  case rest =>
    clear hmk
    obtain ⟨T, P, D, rfl, hG⟩ := hcut
    have HG : Hid (GS w n T P D (fun _ => 0) (fun _ => 0) wc) := hG
    clear hG
    go_wp2_with fail
    go_loopw [19] (fun i wr => ∃ (k : Nat), k ≤ n ∧ i = .int .i64 k ∧ Hid (GS w n T P D (fun x => if x < k then -2 else 0) (fun _ => 0) wr)) (fun i _ => n - (intOf i).toNat)
    case atStart => exact ⟨0, Nat.zero_le _, rfl, HG.out.congrP fun i _ => by rw [if_neg (by omega)]⟩
    case round =>
      clear HG
      obtain ⟨k, hk, rfl, HG⟩ := hrel
      by_cases hkn : k < n
      · have t0 := HG.out.t.cell (i := 0) (by omega)
        have g0 := HG.out.p.cell (i := k) hkn
        have z := HG.out.p.frozen
        simp only [two, if_true] at t0
        go_wp2_with fail
        go_roundw
        case rel => exact ⟨k + 1, by omega, by go_num, (HG.out.setP k (-2)).congrP fun i _ => by
          by_cases e : i = k
          · subst e; rw [if_pos rfl, if_pos (by omega)]
          · rw [if_neg e]
            by_cases h : i < k
            · rw [if_pos h, if_pos (by omega)]
            · rw [if_neg h, if_neg (by omega)]⟩
        case measure => simp [intOf]; omega
      · obtain rfl : n = k := by omega
        replace HG : Hid (GS w n T P D (nodesP nd 0) (fun _ => 0) wr) := HG.out.congrP fun i hi => by rw [if_pos hi]; rfl
        go_wp2_with fail
        go_loopw [29] (fun i wr => ∃ (k : Nat), k ≤ n ∧ i = .int .i64 k ∧ Hid (GS w n T P D (nodesP nd k) (fun _ => 0) wr)) (fun i _ => n - (intOf i).toNat)
        case atStart => exact ⟨0, Nat.zero_le _, rfl, HG⟩
        case round =>
          clear HG
          obtain ⟨i, hi, rfl, HG⟩ := hrel
          by_cases hin : i < n
          · obtain ⟨b, off, rfl, _, hb, _, _, _, _, _, _, _, d7⟩ := cells8 (HT.out.1.below HG.out.fr) hin
            go_wp2_with fail
            go_loopw [38] (fun s wr => ∃ (j : Nat), j ≤ (nd i).kn ∧ s = .int .i64 j ∧ Hid (GS w n T P D (kidsP nd i (nodesP nd i) j) (fun _ => 0) wr)) (fun s _ => (nd i).kn - (intOf s).toNat)
            case atStart => exact ⟨0, Nat.zero_le _, rfl, HG⟩
            case round =>
              clear HG d7
              obtain ⟨j, hj, rfl, HG⟩ := hrel
              have hkb := (HS.out i hin).kn
              by_cases hjn : j < (nd i).kn
              · obtain ⟨b', off', e0, _, hb', g0⟩ := cells1 ((HT.out.below HG.out.fr).2 i hin).2 hjn
                rw [e0]
                have hc := HK.out i hin j hjn
                obtain ⟨k, hkc⟩ : ∃ k : Nat, (nd i).c j = k := ⟨((nd i).c j).toNat, by omega⟩
                rw [hkc] at g0 hc
                have hkn : k < n := by omega
                have t0 := HG.out.t.cell (i := 0) (by omega)
                simp only [two, if_true] at t0
                have p0 := HG.out.p.cell (i := k) hkn
                have z := HG.out.p.frozen
                by_cases hm2 : kidsP nd i (nodesP nd i) j k = -2
                · have HN : Hid (GS w n T P D (kidsP nd i (nodesP nd i) (j + 1)) (fun _ => 0) (wr.setCell ⟨P, k, none⟩ (.int .i64 i))) := (HG.out.setP k i).congrP fun x _ => by
                    show _ = stepP _ i ((nd i).c j).toNat x
                    rw [hkc, Int.toNat_natCast]
                    unfold stepP
                    rw [if_pos hm2]
                  rw [hm2] at p0
                  clear hm2 hkc
                  go_wp2_with fail
                  go_roundw
                  case rel => exact ⟨j + 1, by omega, by go_num, HN⟩
                  case measure => simp [intOf]; omega
                · have HN : Hid (GS w n T P D (kidsP nd i (nodesP nd i) (j + 1)) (fun _ => 0) (wr.setCell ⟨P, k, none⟩ (.int .i64 (-3)))) := (HG.out.setP k (-3)).congrP fun x _ => by
                    show _ = stepP _ i ((nd i).c j).toNat x
                    rw [hkc, Int.toNat_natCast]
                    unfold stepP
                    rw [if_neg hm2]
                  have hq : (kidsP nd i (nodesP nd i) j k == -2) = false := by simpa using hm2
                  clear hkc
                  go_wp2_with fail
                  go_roundw
                  case rel => exact ⟨j + 1, by omega, by go_num, HN⟩
                  case measure => simp [intOf]; omega
              · obtain rfl : (nd i).kn = j := by omega
                go_wp2_with fail
                go_roundw
                case rel => exact ⟨i + 1, by omega, by go_num, HG⟩
                case measure => simp [intOf]; omega
          · obtain rfl : n = i := by omega
            have t0 := HG.out.t.cell (i := 0) (by omega)
            simp only [two, if_true] at t0
            have p0 := HG.out.p.cell (i := n - 1) (by omega)
            have z := HG.out.p.frozen
            have hl := nodesP_last HK.out n (Nat.le_refl _)
            rw [hl] at p0
            clear hl
            have HG2 : Hid (GS w n T P D (parP nd n) (depP (parP nd n) n 0) (wr.setCell ⟨P, n - 1, none⟩ (.int .i64 (-1)))) := (HG.out.setP (n - 1) (-1)).congrP fun x _ => (parP_eq HK.out x).symm
            clear HG
            go_wp2_with fail
            clear t0 p0 z
            go_loopw [9] (fun s wr => ∃ (j : Nat), j ≤ n - 1 ∧ s = .int .i64 ((n : Int) - 2 - j) ∧ Hid (GS w n T P D (parP nd n) (depP (parP nd n) n j) wr)) (fun s _ => (intOf s + 1).toNat)
            case atStart => exact ⟨0, Nat.zero_le _, by go_num, HG2⟩
            case round =>
              clear HG2
              obtain ⟨j, hj, rfl, HG⟩ := hrel
              by_cases hjn : j < n - 1
              · obtain ⟨i, hi2⟩ : ∃ i : Nat, i + 2 + j = n := ⟨n - 2 - j, by omega⟩
                have hie : ((n : Int) - 2 - j) = (i : Int) := by omega
                rw [hie]
                have hin2 : i < n := by omega
                have t0 := HG.out.t.cell (i := 0) (by omega)
                have t1 := HG.out.t.cell (i := 1) (by omega)
                simp only [two, if_true] at t0
                simp only [two, Nat.one_ne_zero, if_false] at t1
                have p0 := HG.out.p.cell (i := i) hin2
                have hrg := parP_rng HK.out i
                have hni : n - 2 - j = i := by omega
                by_cases hpos : 0 ≤ parP nd n i
                · obtain ⟨k, hkp⟩ : ∃ k : Nat, parP nd n i = k := ⟨(parP nd n i).toNat, by omega⟩
                  have hkn2 : k < n := by omega
                  have HN : Hid (GS w n T P D (parP nd n) (depP (parP nd n) n (j + 1)) (wr.setCell ⟨D, i, none⟩ (.int .i64 (depP (parP nd n) n j k + 1)))) := by
                    have h := HG.out.setD i (depP (parP nd n) n j k + 1)
                    have e : (fun x => if x = i then depP (parP nd n) n j k + 1 else depP (parP nd n) n j x) = depP (parP nd n) n (j + 1) := by
                      funext x
                      show _ = if x = n - 2 - j ∧ 0 ≤ parP nd n (n - 2 - j) then depP (parP nd n) n j (parP nd n (n - 2 - j)).toNat + 1 else depP (parP nd n) n j x
                      rw [hni, hkp]
                      by_cases ex : x = i
                      · rw [if_pos ex, if_pos ⟨ex, by omega⟩, Int.toNat_natCast]
                      · rw [if_neg ex, if_neg (fun h => ex h.1)]
                    rw [e] at h
                    exact h
                  rw [hkp] at p0
                  have dk := HG.out.d.cell (i := k) hkn2
                  have di := HG.out.d.cell (i := i) hin2
                  have dz := HG.out.d.frozen
                  have drg := depP_rng (parP nd n) n j k
                  have hki : k ≠ i := by omega
                  have R0 : Hid (GR T P D n i k (depP (parP nd n) n j k) wr) := ⟨t0, t1, p0, dk⟩
                  have R1 : Hid (∀ v : Int, GR T P D n i k (depP (parP nd n) n j k) (wr.setCell ⟨D, i, none⟩ (.int .i64 v))) := by
                    intro v
                    have h := HG.out.setD i v
                    have a0 := h.t.cell (i := 0) (by omega)
                    have a1 := h.t.cell (i := 1) (by omega)
                    have a2 := h.p.cell (i := i) hin2
                    have a3 := h.d.cell (i := k) hkn2
                    rw [hkp] at a2
                    simp only [if_neg hki] at a3
                    exact ⟨a0, a1, a2, a3⟩
                  clear hkp hpos hrg hki
                  go_wp2_with fail
                  go_region_held3 (fun w' => w'.cell? ⟨T, 0, none⟩ = some (.slice (some ⟨P, 0, none⟩) n n) ∧ w'.cell? ⟨T, 1, none⟩ = some (.slice (some ⟨D, 0, none⟩) n n) ∧ w'.cell? ⟨P, i, none⟩ = some (.int .i64 (k : Int)) ∧ w'.cell? ⟨D, k, none⟩ = some (.int .i64 (depP (parP nd n) n j k))) (first | (with_reducible exact R0.out) | (with_reducible exact (R1.out _)) | (with_reducible exact gr_drew R0.out) | (with_reducible exact gr_drew (R1.out _))) (fail)
                  go_wp2_with fail
                  go_roundw
                  case rel => exact ⟨j + 1, by omega, by go_num, HN.out.drew⟩
                  case measure => simp [intOf]
                · have hq : (decide (0 ≤ parP nd n i)) = false := by simpa using hpos
                  have HN : Hid (GS w n T P D (parP nd n) (depP (parP nd n) n (j + 1)) wr) := by
                    have e : depP (parP nd n) n j = depP (parP nd n) n (j + 1) := by
                      funext x
                      show _ = if x = n - 2 - j ∧ 0 ≤ parP nd n (n - 2 - j) then depP (parP nd n) n j (parP nd n (n - 2 - j)).toNat + 1 else depP (parP nd n) n j x
                      rw [hni, if_neg (fun h => hpos h.2)]
                    have h := HG.out
                    rw [e] at h
                    exact h
                  go_wp2_with fail
                  go_roundw
                  case rel => exact ⟨j + 1, by omega, by go_num, HN⟩
                  case measure => simp [intOf]
              · obtain rfl : n - 1 = j := by omega
                have t0 := HG.out.t.cell (i := 0) (by omega)
                have t1 := HG.out.t.cell (i := 1) (by omega)
                simp only [two, if_true] at t0
                simp only [two, Nat.one_ne_zero, if_false] at t1
                have r0 := HG.out.r.cell (i := 0) (by omega)
                have r1 := HG.out.r.cell (i := 1) (by omega)
                have rz := HG.out.r.frozen
                go_wp2_with fail
                have hf : GS w n T P D (parP nd n) (depP (parP nd n) n (n - 1)) wr := HG.out
                refine bodyPost_ret (v := .agg #[.slice (some ⟨P, 0, none⟩) n n, .slice (some ⟨D, 0, none⟩) n n]) (by simp [results, Tryz.results48, go_sem, r0, r1]) rfl ⟨⟨P, D, rfl, Nat.le_of_lt hf.plo, Nat.le_of_lt hf.dlo, ?_, ?_⟩, ?_⟩
                · exact (hf.p.setOther (by have := hf.plo; show P ≠ w.heap.size; omega) _).setOther (by have := hf.plo; show P ≠ w.heap.size; omega) _
                · exact (hf.d.setOther (by have := hf.dlo; show D ≠ w.heap.size; omega) _).setOther (by have := hf.dlo; show D ≠ w.heap.size; omega) _
                · exact frS (frS hf.fr (Nat.le_refl _) _) (Nat.le_refl _) _
end Go.Proofs.YtcpjnddkibbddaaGreat
