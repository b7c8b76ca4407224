import Derived.Test.YtcpjnddkibbddaaGreatFa
import Derived.Test.YtcpjnddkibbddaaGreatSpN
import Derived.Test.YtcpjnddkibbddaaGreatUnD
/-! The specification's check of a unit: what is in scope. -/
namespace Go.Proofs.YtcpjnddkibbddaaGreat
open Go.RowKit
attribute [local go_sem] run_store_float
attribute [local go_sem ↓] Go.wp_at_zero Go.wp_at_succ

/-- a fn whose nodes are right, with its parents at P -/
structure TS (L : Nat) (w : World) (d : FD) (x : FA) (P : Nat) : Prop where
  fn : FnAt L w d x
  par : IntsAt L w (some ⟨P, 0, none⟩) d.nn (parP d.nd d.nn)
theorem TS.below {L : Nat} {w w' : World} {d : FD} {x : FA} {P : Nat} (h : TS L w d x P) (hb : Below w.heap.size w w') : TS L w' d x P := ⟨h.fn.below hb, RowN.below h.par hb⟩
structure FdOk (d : FD) : Prop where
  tree : TreeOk d.nd d.nn
  shf : ∀ i, i < d.nn → ShF d.nd i
  sm : d.sm
  nn : d.nn ≤ 3000
abbrev treeC (P D n : Nat) : Array Value := #[.slice (some ⟨P, 0, none⟩) n n, .slice (some ⟨D, 0, none⟩) n n]
abbrev treeV (P D n : Nat) : Value := .agg #[.slice (some ⟨P, 0, none⟩) n n, .slice (some ⟨D, 0, none⟩) n n]

theorem plc_kid {nd : Nat → ND} {n p j z : Nat} {pl : Int} (hk : KidAt nd n p j z) (hu : ∀ p' j', KidAt nd n p' j' z → p' = p ∧ j' = j) (h : PlcSays (nd p).c (nd p).kn z pl) : pl = j := by
  rcases h with ⟨_, h⟩ | ⟨i, rfl, h1, h2, _⟩
  · exact absurd hk.2.2 (h j hk.2.1)
  · have := (hu p i ⟨hk.1, h1, h2⟩).2
    omega

/-- behind the two boxes of a fn and its tree -/
abbrev bxW (w : World) (d : FD) (x : FA) (P D : Nat) : World := (w.alloc (.cells (fnC d x) 45)).alloc (.cells (treeC P D d.nn) 79)
theorem bx_fn {w wr : World} {d : FD} {x : FA} {P D : Nat} (h : Below (bxW w d x P D).heap.size (bxW w d x P D) wr) : Has wr w.heap.size (fnC d x) := ((Has.new w (fnC d x) _).alloc _).call h
theorem bx_tree {w wr : World} {d : FD} {x : FA} {P D : Nat} (h : Below (bxW w d x P D).heap.size (bxW w d x P D) wr) : Has wr (w.heap.size + 1) (treeC P D d.nn) := by
  have := (Has.new (w.alloc (.cells (fnC d x) 45)) (treeC P D d.nn) 79).call h
  simpa using this
theorem bx_below {w wr : World} {d : FD} {x : FA} {P D : Nat} (h : Below (bxW w d x P D).heap.size (bxW w d x P D) wr) : Below w.heap.size w wr := below_call (below_alloc2 w _ _) h
theorem IntsAt.at0 {L : Nat} {w : World} {P n : Nat} {r : Nat → Int} (h : IntsAt L w (some ⟨P, 0, none⟩) n r) {k : Nat} (hk : k < n) : w.cell? ⟨P, k, none⟩ = some (.int .i64 (r k)) ∧ P < w.heap.size := by
  obtain ⟨b, o, e, _, hb, g⟩ := cells1 h hk
  obtain ⟨rfl, rfl⟩ : P = b ∧ 0 = o := by simpa using e
  rw [Nat.zero_add] at g
  exact ⟨g, hb⟩

theorem cell_later {w wx : World} {q : Addr} {v : Value} (hb : Below w.heap.size w wx) (h : w.cell? q = some v) : wx.cell? q = some v := by
  have hq : q.block < w.heap.size := by
    refine Nat.lt_of_not_le fun hle => ?_
    have : w.heap[q.block]? = none := Array.getElem?_eq_none hle
    simp [World.cell?, this] at h
  rw [hb.cell hq]
  exact h
abbrev NS (B A b3 o3 b2 o2 m y : Nat) (d : FD) (x : FA) (kn kc : Nat) (w' : World) : Prop := w'.cell? ⟨B, 6, none⟩ = some (.slice (some ⟨b3, o3, none⟩) d.nn x.nc) ∧ w'.cell? ⟨A, 7, none⟩ = some (.slice (some ⟨b2, o2, none⟩) kn kc) ∧ w'.cell? ⟨b2, o2 + m, none⟩ = some (.int .i64 (y : Int)) ∧ w'.cell? ⟨b3, o3 + y * 8, none⟩ = some (.int .i64 (d.nd y).k) ∧ w'.cell? ⟨b3, o3 + y * 8 + 1, none⟩ = some (.int .i64 (d.nd y).l) ∧ w'.cell? ⟨b3, o3 + y * 8 + 2, none⟩ = some (.int .i64 (d.nd y).o) ∧ w'.cell? ⟨b3, o3 + y * 8 + 3, none⟩ = some (.int .i64 (d.nd y).n) ∧ w'.cell? ⟨b3, o3 + y * 8 + 4, none⟩ = some (.float .f64 (d.nd y).f) ∧ w'.cell? ⟨b3, o3 + y * 8 + 5, none⟩ = some (.string (d.nd y).s) ∧ w'.cell? ⟨b3, o3 + y * 8 + 6, none⟩ = some (.slice (x.nas y).ra (d.nd y).rn (x.nas y).rc) ∧ w'.cell? ⟨b3, o3 + y * 8 + 7, none⟩ = some (.slice (x.nas y).ka (d.nd y).kn (x.nas y).kc)
theorem below_a' {a w : World} (h : Below a.heap.size a w) (o : Obj) : Below a.heap.size a (w.alloc o) := h.alloc h.size _

set_option maxRecDepth 100000 in
set_option maxHeartbeats 4000000 in
theorem l3visible_calls (L : Nat) (d : FD) (x : FA) (P D t : Nat) (v : Int) (w : World) (ht : t < d.nn) (hT : TS L w d x P) (hd : FdOk d) :
    Calls Tryz.prog 83 #[fnV d x, treeV P D d.nn, .int .i64 t, .int .i64 v] w fun e w' => e = .returned (.bool (dB (Scoped d t v))) ∧ Below w.heap.size w w' := by
  have HT : Hid (TS L w d x P) := hT
  have HD : Hid (FdOk d) := hd
  clear hT hd
  have hnn := HD.out.nn
  by_cases hv : v < d.params
  · have he : dB (Scoped d t v) = true := dB_true (.inl hv)
    rw [he]
    clear he
    go_enter Tryz.func83, Tryz.ntmps83
    go_wp2_with fail
    go_ret
    exact ⟨rfl, below_alloc2 _ _ _⟩
  · have HE : Hid (dB (Scoped d t v) = dB (Vis d.nd d.nn v t)) := by
      show dB (Scoped d t v) = dB (Vis d.nd d.nn v t)
      by_cases h : Vis d.nd d.nn v t
      · rw [dB_true h, dB_true (.inr h)]
      · rw [dB_false h, dB_false fun k => k.elim hv h]
    obtain ⟨g0, hb0⟩ := IntsAt.at0 HT.out.par ht
    go_enter Tryz.func83, Tryz.ntmps83
    go_wp2_with fail
    clear g0
    go_loopw [9, 10] (fun bl up wr => ∃ (z : Nat), z < d.nn ∧ bl = .int .i64 z ∧ up = .int .i64 (parP d.nd d.nn z) ∧ Hid (Vis d.nd d.nn v t ↔ Vis d.nd d.nn v z) ∧ Hid (Below (bxW w d x P D).heap.size (bxW w d x P D) wr)) (fun bl _ _ => d.nn - (intOf bl).toNat)
    case atStart => exact ⟨t, ht, rfl, rfl, Iff.rfl, Below.refl _ _⟩
    case round =>
      obtain ⟨z, hz, rfl, rfl, HV, HB⟩ := hrel
      have HT2 : Hid (TS L wr d x P) := HT.out.below (bx_below HB.out)
      have hsz : w.heap.size + 1 < wr.heap.size := (bx_tree HB.out).lt
      by_cases hlast : z < d.nn - 1
      · obtain ⟨p, j, hpar, hlt, hkid, huniq⟩ := HD.out.tree.up hlast
        rw [hpar]
        have HU : Hid (KidAt d.nd d.nn p j z ∧ ∀ p' j', KidAt d.nd d.nn p' j' z → p' = p ∧ j' = j) := ⟨hkid, huniq⟩
        have hpn : p < d.nn := hkid.1
        have hjk : j < (d.nd p).kn := hkid.2.1
        have hkn := (HD.out.shf p hpn).kn
        clear hkid huniq hpar
        have f6 : wr.cell? ⟨w.heap.size, 6, none⟩ = some (.slice x.na d.nn x.nc) := (bx_fn HB.out).cell 6 rfl
        have f0 : wr.cell? ⟨w.heap.size + 1, 0, none⟩ = some (.slice (some ⟨P, 0, none⟩) d.nn d.nn) := (bx_tree HB.out).cell 0 rfl
        obtain ⟨p0, hpz⟩ := IntsAt.at0 HT2.out.par hpn
        obtain ⟨b, off, e0, _, hb, d0, d1, d2, d3, d4, d5, d6, d7⟩ := cells8 HT2.out.fn.2.2.1 hpn
        rw [e0] at f6
        by_cases h1 : (d.nd p).k = 1
        · have q1 : ((d.nd p).k == 1) = true := by rw [h1]; rfl
          have q7 : ((d.nd p).k == 7) = false := by rw [h1]; rfl
          have q8 : ((d.nd p).k == 8) = false := by rw [h1]; rfl
          have q12 : ((d.nd p).k == 12) = false := by rw [h1]; rfl
          have H1 : Hid ((d.nd p).k = 1) := h1
          clear h1
          go_wp2_with (go_at_call 142; refine (l3place_calls L _ _ _ (d.nd p).c z _ (by omega) ((HT2.out.fn.2.2.2 p hpn).alloc _).2).mono ?_; rintro e w1 ⟨⟨pl, rfl, hpl⟩, rfl⟩; obtain rfl := plc_kid HU.out.1 HU.out.2 hpl)
          clear d0 d1 d2 d3 d4 d5 d6 d7 hpl f6 f0 p0
          rename World => wa
          have HB2 : Hid (Below (bxW w d x P D).heap.size (bxW w d x P D) (wa.alloc (.cells (nodeC (d.nd p) (x.nas p)) 48))) := below_a' HB.out _
          go_loopw [13] (fun i wq => ∃ (m : Nat), m ≤ j ∧ i = .int .i64 m ∧ Hid (∀ i', i' < m → ¬ ((d.nd ((d.nd p).c i').toNat).k = 2 ∧ RefIn (d.nd ((d.nd p).c i').toNat) v)) ∧ Hid (Below (wa.alloc (.cells (nodeC (d.nd p) (x.nas p)) 48)).heap.size (wa.alloc (.cells (nodeC (d.nd p) (x.nas p)) 48)) wq)) (fun i _ => j - (intOf i).toNat)
          case atStart => exact ⟨0, Nat.zero_le _, rfl, fun i hi => by omega, Below.refl _ _⟩
          case round =>
            obtain ⟨m, hm, rfl, HM, HW⟩ := hrel
            have HB3 : Hid (Below (bxW w d x P D).heap.size (bxW w d x P D) wr) := below_call HB2.out HW.out
            have HT3 : Hid (TS L wr d x P) := HT.out.below (bx_below HB3.out)
            have HN : Hid (Has wr wa.heap.size (nodeC (d.nd p) (x.nas p))) := Has.made HW.out
            have n0 : wr.cell? ⟨wa.heap.size, 0, none⟩ = some (.int .i64 (d.nd p).k) := HN.out.cell 0 rfl
            have n7 : wr.cell? ⟨wa.heap.size, 7, none⟩ = some (.slice (x.nas p).ka (d.nd p).kn (x.nas p).kc) := HN.out.cell 7 rfl
            have f6 : wr.cell? ⟨w.heap.size, 6, none⟩ = some (.slice x.na d.nn x.nc) := (bx_fn HB3.out).cell 6 rfl
            have f0 : wr.cell? ⟨w.heap.size + 1, 0, none⟩ = some (.slice (some ⟨P, 0, none⟩) d.nn d.nn) := (bx_tree HB3.out).cell 0 rfl
            by_cases hmj : m < j
            · have hc := (HD.out.shf p hpn).kids m (by omega)
              obtain ⟨y, hy⟩ : ∃ y : Nat, (d.nd p).c m = y := ⟨((d.nd p).c m).toNat, by omega⟩
              rw [hy] at hc
              have hyn : y < d.nn := by omega
              have i1 : (m : Int) < ((d.nd p).kn : Int) := by omega
              have i2 : (0 : Int) ≤ (m : Int) := by omega
              have i3 : (y : Int) < (d.nn : Int) := by omega
              have i4 : (0 : Int) ≤ (y : Int) := by omega
              obtain ⟨b2, o2, e2, _, hb2, k0⟩ := cells1 (HT3.out.fn.2.2.2 p hpn).2 (show m < (d.nd p).kn by omega)
              obtain ⟨b3, o3, e3, _, hb3, d0, d1, d2, d3, d4, d5, d6, d7⟩ := cells8 HT3.out.fn.2.2.1 hyn
              rw [e2] at n7
              rw [e3] at f6
              rw [hy] at k0
              have HY : Hid ((d.nd p).c m = y) := hy
              clear hy e2 e3
              have HS : Hid (∀ W, Below wr.heap.size wr W → NS w.heap.size wa.heap.size b3 o3 b2 o2 m y d x (d.nd p).kn (x.nas p).kc W) := fun W hW => ⟨cell_later hW f6, cell_later hW n7, cell_later hW k0, cell_later hW d0, cell_later hW d1, cell_later hW d2, cell_later hW d3, cell_later hW d4, cell_later hW d5, cell_later hW d6, cell_later hW d7⟩
              go_wp2_with fail
              go_region_held3 (fun w' => w'.cell? ⟨w.heap.size, 6, none⟩ = some (.slice (some ⟨b3, o3, none⟩) d.nn x.nc) ∧ w'.cell? ⟨wa.heap.size, 7, none⟩ = some (.slice (some ⟨b2, o2, none⟩) (d.nd p).kn (x.nas p).kc) ∧ w'.cell? ⟨b2, o2 + m, none⟩ = some (.int .i64 (y : Int)) ∧ w'.cell? ⟨b3, o3 + y * 8, none⟩ = some (.int .i64 (d.nd y).k) ∧ w'.cell? ⟨b3, o3 + y * 8 + 1, none⟩ = some (.int .i64 (d.nd y).l) ∧ w'.cell? ⟨b3, o3 + y * 8 + 2, none⟩ = some (.int .i64 (d.nd y).o) ∧ w'.cell? ⟨b3, o3 + y * 8 + 3, none⟩ = some (.int .i64 (d.nd y).n) ∧ w'.cell? ⟨b3, o3 + y * 8 + 4, none⟩ = some (.float .f64 (d.nd y).f) ∧ w'.cell? ⟨b3, o3 + y * 8 + 5, none⟩ = some (.string (d.nd y).s) ∧ w'.cell? ⟨b3, o3 + y * 8 + 6, none⟩ = some (.slice (x.nas y).ra (d.nd y).rn (x.nas y).rc) ∧ w'.cell? ⟨b3, o3 + y * 8 + 7, none⟩ = some (.slice (x.nas y).ka (d.nd y).kn (x.nas y).kc)) (first | (with_reducible exact HS.out _ (Below.refl _ _)) | (with_reducible exact HS.out _ (below_alloc _ _)) | (with_reducible exact HS.out _ (Below.refl _ _).drew) | (with_reducible exact HS.out _ (below_alloc _ _).drew)) (fail)
              have hye : ((d.nd p).c m).toNat = y := by rw [HY.out]; rfl
              have HYE : Hid (((d.nd p).c m).toNat = y) := hye
              clear hye d0 d1 d2 d3 d4 d5 d6 d7 k0 f6 f0 n0 n7 HS
              by_cases h2 : (d.nd y).k = 2
              · have r2 : ((d.nd y).k == 2) = true := by rw [h2]; rfl
                have H2 : Hid ((d.nd y).k = 2) := h2
                clear h2
                by_cases hr : RefIn (d.nd y) v
                · have hdb : dB (DeclK (d.nd y).k ∧ RefIn (d.nd y) v) = true := dB_true ⟨.inl H2.out, hr⟩
                  have HR : Hid (RefIn (d.nd y) v) := hr
                  clear hr
                  go_wp2_with (go_at_call 143; refine (l3declares_calls L (d.nd y) (x.nas y) v _ ((HD.out.sm).nd y hyn) (by first | exact ((HT3.out.fn.2.2.2 y hyn).alloc _) | exact ((HT3.out.fn.2.2.2 y hyn).alloc _).below (Below.refl _ _).drew)).mono ?_; rw [hdb]; rintro e w1 ⟨rfl, hb1⟩)
                  go_ret
                  refine ⟨ret_bool ?_, below_call (bx_below HB3.out) (below_call (by first | exact below_alloc _ _ | exact (below_alloc _ _).drew) hb1)⟩
                  rw [HE.out]
                  exact (dB_true (HV.out.2 (.here z p j HU.out.1 (.inl ⟨H1.out, m, hmj, by rw [HYE.out]; exact ⟨H2.out, HR.out⟩⟩)))).symm
                · have hdb : dB (DeclK (d.nd y).k ∧ RefIn (d.nd y) v) = false := dB_false fun h => hr h.2
                  have HR : Hid (¬ RefIn (d.nd y) v) := hr
                  clear hr
                  go_wp2_with (go_at_call 143; refine (l3declares_calls L (d.nd y) (x.nas y) v _ ((HD.out.sm).nd y hyn) (by first | exact ((HT3.out.fn.2.2.2 y hyn).alloc _) | exact ((HT3.out.fn.2.2.2 y hyn).alloc _).below (Below.refl _ _).drew)).mono ?_; rw [hdb]; rintro e w1 ⟨rfl, hb1⟩)
                  go_roundw
                  case rel => exact ⟨m + 1, by omega, by go_num, fun i' hi' => by
                    by_cases e : i' = m
                    · subst e; rw [HYE.out]; exact fun h => HR.out h.2
                    · exact HM.out i' (by omega), below_call HW.out (below_call (by first | exact below_alloc _ _ | exact (below_alloc _ _).drew) hb1)⟩
                  case measure => simp [intOf]; omega
              · have r2 : ((d.nd y).k == 2) = false := by simpa using h2
                go_wp2_with fail
                go_roundw
                case rel => exact ⟨m + 1, by omega, by go_num, fun i' hi' => by
                  by_cases e : i' = m
                  · subst e; rw [HYE.out]; exact fun h => h2 h.1
                  · exact HM.out i' (by omega), below_call HW.out (by first | exact below_alloc _ _ | exact (below_alloc _ _).drew)⟩
                case measure => simp [intOf]; omega
            · obtain rfl : j = m := by omega
              have HV2 : Hid (Vis d.nd d.nn v t ↔ Vis d.nd d.nn v p) := HV.out.trans ((Vis.iff HD.out.tree HU.out.1).trans ⟨fun h => h.elim (fun h => absurd h (by
                rintro (⟨_, i', hi', h⟩ | ⟨h, _⟩)
                · exact HM.out i' hi' h
                · have := H1.out; omega)) id, .inr⟩)
              obtain ⟨p1, _⟩ := IntsAt.at0 HT3.out.par hpn
              go_wp2_with fail
              go_roundw
              case rel => exact ⟨p, hpn, rfl, rfl, HV2, HB3⟩
              case measure => simp [intOf]; omega
        · have q1 : ((d.nd p).k == 1) = false := by simpa using h1
          have H1 : Hid ((d.nd p).k ≠ 1) := h1
          clear h1
          have HB2 : Hid (Below (bxW w d x P D).heap.size (bxW w d x P D) (wr.alloc (.cells (nodeC (d.nd p) (x.nas p)) 48))) := below_a' HB.out _
          have hrest : (((d.nd p).k = 7 ∨ (d.nd p).k = 8 ∨ (d.nd p).k = 12) ∧ j + 1 = (d.nd p).kn ∧ RefIn (d.nd p) v) ∨ ¬ (((d.nd p).k = 7 ∨ (d.nd p).k = 8 ∨ (d.nd p).k = 12) ∧ j + 1 = (d.nd p).kn ∧ RefIn (d.nd p) v) := Classical.em _
          rcases hrest with hyes | hno
          · have HYS : Hid (((d.nd p).k = 7 ∨ (d.nd p).k = 8 ∨ (d.nd p).k = 12) ∧ j + 1 = (d.nd p).kn ∧ RefIn (d.nd p) v) := hyes
            have hdb : dB (DeclK (d.nd p).k ∧ RefIn (d.nd p) v) = true := dB_true ⟨.inr hyes.1, hyes.2.2⟩
            have qe : ((j : Int) == ((d.nd p).kn : Int) - 1) = true := by have := hyes.2.1; simp; omega
            have hk := hyes.1
            clear hyes
            rcases hk with h7 | h7 | h7
            · have q7 : ((d.nd p).k == 7) = true := by rw [h7]; rfl
              have q8 : ((d.nd p).k == 8) = false := by rw [h7]; rfl
              have q12 : ((d.nd p).k == 12) = false := by rw [h7]; rfl
              clear h7
              go_wp2_with (first | (go_at_call 142; refine (l3place_calls L _ _ _ (d.nd p).c z _ (by omega) ((HT2.out.fn.2.2.2 p hpn).alloc _).2).mono ?_; rintro e w1 ⟨⟨pl, rfl, hpl⟩, rfl⟩; obtain rfl := plc_kid HU.out.1 HU.out.2 hpl) | (go_at_call 143; refine (l3declares_calls L (d.nd p) (x.nas p) v _ ((HD.out.sm).nd p hpn) ((HT2.out.fn.2.2.2 p hpn).alloc _)).mono ?_; rw [hdb]; rintro e w1 ⟨rfl, hb1⟩))
              go_ret
              refine ⟨ret_bool ?_, below_call (bx_below HB2.out) hb1⟩
              rw [HE.out]
              exact (dB_true (HV.out.2 (.here z p j HU.out.1 (.inr HYS.out)))).symm
            · have q7 : ((d.nd p).k == 7) = false := by rw [h7]; rfl
              have q8 : ((d.nd p).k == 8) = true := by rw [h7]; rfl
              have q12 : ((d.nd p).k == 12) = false := by rw [h7]; rfl
              clear h7
              go_wp2_with (first | (go_at_call 142; refine (l3place_calls L _ _ _ (d.nd p).c z _ (by omega) ((HT2.out.fn.2.2.2 p hpn).alloc _).2).mono ?_; rintro e w1 ⟨⟨pl, rfl, hpl⟩, rfl⟩; obtain rfl := plc_kid HU.out.1 HU.out.2 hpl) | (go_at_call 143; refine (l3declares_calls L (d.nd p) (x.nas p) v _ ((HD.out.sm).nd p hpn) ((HT2.out.fn.2.2.2 p hpn).alloc _)).mono ?_; rw [hdb]; rintro e w1 ⟨rfl, hb1⟩))
              go_ret
              refine ⟨ret_bool ?_, below_call (bx_below HB2.out) hb1⟩
              rw [HE.out]
              exact (dB_true (HV.out.2 (.here z p j HU.out.1 (.inr HYS.out)))).symm
            · have q7 : ((d.nd p).k == 7) = false := by rw [h7]; rfl
              have q8 : ((d.nd p).k == 8) = false := by rw [h7]; rfl
              have q12 : ((d.nd p).k == 12) = true := by rw [h7]; rfl
              clear h7
              go_wp2_with (first | (go_at_call 142; refine (l3place_calls L _ _ _ (d.nd p).c z _ (by omega) ((HT2.out.fn.2.2.2 p hpn).alloc _).2).mono ?_; rintro e w1 ⟨⟨pl, rfl, hpl⟩, rfl⟩; obtain rfl := plc_kid HU.out.1 HU.out.2 hpl) | (go_at_call 143; refine (l3declares_calls L (d.nd p) (x.nas p) v _ ((HD.out.sm).nd p hpn) ((HT2.out.fn.2.2.2 p hpn).alloc _)).mono ?_; rw [hdb]; rintro e w1 ⟨rfl, hb1⟩))
              go_ret
              refine ⟨ret_bool ?_, below_call (bx_below HB2.out) hb1⟩
              rw [HE.out]
              exact (dB_true (HV.out.2 (.here z p j HU.out.1 (.inr HYS.out)))).symm
          · have HV2 : Hid (Vis d.nd d.nn v t ↔ Vis d.nd d.nn v p) := HV.out.trans ((Vis.iff HD.out.tree HU.out.1).trans ⟨fun h => h.elim (fun h => absurd h (by
              rintro (⟨h, _⟩ | h)
              · exact H1.out h
              · exact hno h)) id, .inr⟩)
            by_cases hk : (d.nd p).k = 7 ∨ (d.nd p).k = 8 ∨ (d.nd p).k = 12
            · have HK : Hid (DeclK (d.nd p).k) := .inr hk
              by_cases hj : j + 1 = (d.nd p).kn
              · have hdb : dB (DeclK (d.nd p).k ∧ RefIn (d.nd p) v) = false := dB_false fun h => hno ⟨hk, hj, h.2⟩
                have qe : ((j : Int) == ((d.nd p).kn : Int) - 1) = true := by simp; omega
                clear hno hj
                rcases hk with h7 | h7 | h7
                · have q7 : ((d.nd p).k == 7) = true := by rw [h7]; rfl
                  have q8 : ((d.nd p).k == 8) = false := by rw [h7]; rfl
                  have q12 : ((d.nd p).k == 12) = false := by rw [h7]; rfl
                  clear h7
                  go_wp2_with (first | (go_at_call 142; refine (l3place_calls L _ _ _ (d.nd p).c z _ (by omega) ((HT2.out.fn.2.2.2 p hpn).alloc _).2).mono ?_; rintro e w1 ⟨⟨pl, rfl, hpl⟩, rfl⟩; obtain rfl := plc_kid HU.out.1 HU.out.2 hpl) | (go_at_call 143; refine (l3declares_calls L (d.nd p) (x.nas p) v _ ((HD.out.sm).nd p hpn) ((HT2.out.fn.2.2.2 p hpn).alloc _)).mono ?_; rw [hdb]; rintro e w1 ⟨rfl, hb1⟩; have HB4 : Hid (Below (bxW w d x P D).heap.size (bxW w d x P D) w1) := below_call HB2.out hb1; have HT4 : Hid (TS L w1 d x P) := HT.out.below (bx_below HB4.out); have f00 : w1.cell? ⟨w.heap.size + 1, 0, none⟩ = some (.slice (some ⟨P, 0, none⟩) d.nn d.nn) := (bx_tree HB4.out).cell 0 rfl; have p00 := (IntsAt.at0 HT4.out.par hpn).1))
                  go_roundw
                  case rel => exact ⟨p, hpn, rfl, rfl, HV2, HB4⟩
                  case measure => simp [intOf]; omega
                · have q7 : ((d.nd p).k == 7) = false := by rw [h7]; rfl
                  have q8 : ((d.nd p).k == 8) = true := by rw [h7]; rfl
                  have q12 : ((d.nd p).k == 12) = false := by rw [h7]; rfl
                  clear h7
                  go_wp2_with (first | (go_at_call 142; refine (l3place_calls L _ _ _ (d.nd p).c z _ (by omega) ((HT2.out.fn.2.2.2 p hpn).alloc _).2).mono ?_; rintro e w1 ⟨⟨pl, rfl, hpl⟩, rfl⟩; obtain rfl := plc_kid HU.out.1 HU.out.2 hpl) | (go_at_call 143; refine (l3declares_calls L (d.nd p) (x.nas p) v _ ((HD.out.sm).nd p hpn) ((HT2.out.fn.2.2.2 p hpn).alloc _)).mono ?_; rw [hdb]; rintro e w1 ⟨rfl, hb1⟩; have HB4 : Hid (Below (bxW w d x P D).heap.size (bxW w d x P D) w1) := below_call HB2.out hb1; have HT4 : Hid (TS L w1 d x P) := HT.out.below (bx_below HB4.out); have f00 : w1.cell? ⟨w.heap.size + 1, 0, none⟩ = some (.slice (some ⟨P, 0, none⟩) d.nn d.nn) := (bx_tree HB4.out).cell 0 rfl; have p00 := (IntsAt.at0 HT4.out.par hpn).1))
                  go_roundw
                  case rel => exact ⟨p, hpn, rfl, rfl, HV2, HB4⟩
                  case measure => simp [intOf]; omega
                · have q7 : ((d.nd p).k == 7) = false := by rw [h7]; rfl
                  have q8 : ((d.nd p).k == 8) = false := by rw [h7]; rfl
                  have q12 : ((d.nd p).k == 12) = true := by rw [h7]; rfl
                  clear h7
                  go_wp2_with (first | (go_at_call 142; refine (l3place_calls L _ _ _ (d.nd p).c z _ (by omega) ((HT2.out.fn.2.2.2 p hpn).alloc _).2).mono ?_; rintro e w1 ⟨⟨pl, rfl, hpl⟩, rfl⟩; obtain rfl := plc_kid HU.out.1 HU.out.2 hpl) | (go_at_call 143; refine (l3declares_calls L (d.nd p) (x.nas p) v _ ((HD.out.sm).nd p hpn) ((HT2.out.fn.2.2.2 p hpn).alloc _)).mono ?_; rw [hdb]; rintro e w1 ⟨rfl, hb1⟩; have HB4 : Hid (Below (bxW w d x P D).heap.size (bxW w d x P D) w1) := below_call HB2.out hb1; have HT4 : Hid (TS L w1 d x P) := HT.out.below (bx_below HB4.out); have f00 : w1.cell? ⟨w.heap.size + 1, 0, none⟩ = some (.slice (some ⟨P, 0, none⟩) d.nn d.nn) := (bx_tree HB4.out).cell 0 rfl; have p00 := (IntsAt.at0 HT4.out.par hpn).1))
                  go_roundw
                  case rel => exact ⟨p, hpn, rfl, rfl, HV2, HB4⟩
                  case measure => simp [intOf]; omega
              · have qe : ((j : Int) == ((d.nd p).kn : Int) - 1) = false := by simp; omega
                clear hno hj
                rcases hk with h7 | h7 | h7
                · have q7 : ((d.nd p).k == 7) = true := by rw [h7]; rfl
                  have q8 : ((d.nd p).k == 8) = false := by rw [h7]; rfl
                  have q12 : ((d.nd p).k == 12) = false := by rw [h7]; rfl
                  clear h7
                  go_wp2_with (go_at_call 142; refine (l3place_calls L _ _ _ (d.nd p).c z _ (by omega) ((HT2.out.fn.2.2.2 p hpn).alloc _).2).mono ?_; rintro e w1 ⟨⟨pl, rfl, hpl⟩, rfl⟩; obtain rfl := plc_kid HU.out.1 HU.out.2 hpl)
                  go_roundw
                  case rel => exact ⟨p, hpn, rfl, rfl, HV2, HB2⟩
                  case measure => simp [intOf]; omega
                · have q7 : ((d.nd p).k == 7) = false := by rw [h7]; rfl
                  have q8 : ((d.nd p).k == 8) = true := by rw [h7]; rfl
                  have q12 : ((d.nd p).k == 12) = false := by rw [h7]; rfl
                  clear h7
                  go_wp2_with (go_at_call 142; refine (l3place_calls L _ _ _ (d.nd p).c z _ (by omega) ((HT2.out.fn.2.2.2 p hpn).alloc _).2).mono ?_; rintro e w1 ⟨⟨pl, rfl, hpl⟩, rfl⟩; obtain rfl := plc_kid HU.out.1 HU.out.2 hpl)
                  go_roundw
                  case rel => exact ⟨p, hpn, rfl, rfl, HV2, HB2⟩
                  case measure => simp [intOf]; omega
                · have q7 : ((d.nd p).k == 7) = false := by rw [h7]; rfl
                  have q8 : ((d.nd p).k == 8) = false := by rw [h7]; rfl
                  have q12 : ((d.nd p).k == 12) = true := by rw [h7]; rfl
                  clear h7
                  go_wp2_with (go_at_call 142; refine (l3place_calls L _ _ _ (d.nd p).c z _ (by omega) ((HT2.out.fn.2.2.2 p hpn).alloc _).2).mono ?_; rintro e w1 ⟨⟨pl, rfl, hpl⟩, rfl⟩; obtain rfl := plc_kid HU.out.1 HU.out.2 hpl)
                  go_roundw
                  case rel => exact ⟨p, hpn, rfl, rfl, HV2, HB2⟩
                  case measure => simp [intOf]; omega
            · have q7 : ((d.nd p).k == 7) = false := by simp; omega
              have q8 : ((d.nd p).k == 8) = false := by simp; omega
              have q12 : ((d.nd p).k == 12) = false := by simp; omega
              clear hno hk
              go_wp2_with (go_at_call 142; refine (l3place_calls L _ _ _ (d.nd p).c z _ (by omega) ((HT2.out.fn.2.2.2 p hpn).alloc _).2).mono ?_; rintro e w1 ⟨⟨pl, rfl, hpl⟩, rfl⟩; obtain rfl := plc_kid HU.out.1 HU.out.2 hpl)
              go_roundw
              case rel => exact ⟨p, hpn, rfl, rfl, HV2, HB2⟩
              case measure => simp [intOf]; omega
      · have hz1 : z = d.nn - 1 := by omega
        have hroot : parP d.nd d.nn z = -1 := by rw [hz1]; exact HD.out.tree.root
        rw [hroot]
        clear hroot
        have hv2 : dB (Vis d.nd d.nn v t) = false := dB_false fun h => by
          have h2 := HV.out.1 h
          rw [hz1] at h2
          exact Vis.root HD.out.tree h2
        have HV2 : Hid (dB (Vis d.nd d.nn v t) = false) := hv2
        clear hv2 hz1
        go_wp2_with fail
        go_ret
        exact ⟨ret_bool (HE.out.trans HV2.out).symm, bx_below HB.out⟩
end Go.Proofs.YtcpjnddkibbddaaGreat

/-! The specification's check of a unit: a fn's head. -/
namespace Go.Proofs.YtcpjnddkibbddaaGreat
open Go.RowKit
attribute [local go_sem] run_store_float
attribute [local go_sem ↓] Go.wp_at_zero Go.wp_at_succ

def nmB (s : ByteArray) (l : Int) : Bool := decide (l ≤ (s.size : Int)) && decide ((s.size : Int) ≤ 40)
set_option maxRecDepth 100000 in
set_option maxHeartbeats 2000000 in
theorem l3name_calls (s : ByteArray) (l : Int) (w : World) : Calls Tryz.prog 80 #[.string s, .int .i64 l] w fun e w' => e = .returned (.bool (nmB s l)) ∧ w' = w := by
  go_enter Tryz.func80, Tryz.ntmps80
  go_wp2_with fail
  all_goals go_ret
  all_goals exact ⟨by simp [nmB, *] <;> (intros; omega), rfl⟩

abbrev ftV (x : FT) : Value := .agg #[.int .i64 x.c, .int .i64 x.f, .int .i64 x.n]
set_option maxRecDepth 100000 in
set_option maxHeartbeats 2000000 in
theorem l3fault_calls (c f n : Int) (w : World) : Calls Tryz.prog 45 #[.int .i64 c, .int .i64 f, .int .i64 n] w fun e w' => e = .returned (.agg #[.int .i64 c, .int .i64 f, .int .i64 n]) ∧ Below w.heap.size w w' := by
  go_enter Tryz.func45, Tryz.ntmps45
  go_wp2_with fail
  exact bodyPost_ret (v := .agg #[.int .i64 c, .int .i64 f, .int .i64 n]) (by simp [results, Tryz.results45, go_sem]) rfl ⟨rfl, below_alloc _ _⟩

end Go.Proofs.YtcpjnddkibbddaaGreat
